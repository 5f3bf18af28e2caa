import PyProof.Rows.All
import Wide.All
import OpenK.AllK
import Wide.FinOn
import Lean
import PyProof.EqAt
import PyProof.EqKinds
import PyProof.TupleCall
import KE.KIntText
import PyProof.Rows.SortShell
import PyProof.Rows.CallKwBuiltin
import KE.KSortKey
import KE.KDictSum
import KE.KRevIter
import PySem.Challenge.RW_manyhands_k26_lines_of_it
set_option linter.all false
set_option genSizeOf false
set_option Elab.async false
set_option maxRecDepth 100000
set_option maxHeartbeats 4000000
def GF:=@PySem.wpAny_bind
def GG:=@Option.bind_eq_some_iff
def GH:=@PySem.wpAny_pure
def GI:=@List.mem_cons_of_mem
def GJ:=@List.mem_cons
def GK:=@PySem.Heap.get?_push_of_some
def GL:=@if_neg
def GM:=@List.map_cons
def GN:=@Ne.symm
def GO:=@List.mem_cons_self
def GP:=@List.mem_map_of_mem
def GQ:=@List.size_toArray
def GR:=@Option.map_eq_some_iff
def GS:=@List.length_cons
def GT:=@List.mem_append
def GU:=@if_pos
def GV:=@List.mem_append_right
def GW:=@List.length_append
def GX:=@List.length_map
def GY:=@List.mem_singleton
def GZ:=@decide_eq_false
def HA:=@List.nodup_cons
def HB:=@List.mem_map
def HC:=@List.getElem?_eq_some_iff
def HD:=@Nat.le_refl
def HE:=@List.getElem?_eq_getElem
def HF:=@Bool.false_ne_true
def HG:=@PySem.Heap.get?_push_size
def HH:=@Nat.lt_of_lt_of_le
def HI:=@PySem.Heap.lt_size
def HJ:=@List.mem_append_left
def HK:=@Bool.and_eq_true
def HL:=@Bool.false_eq_true
def HM:=@List.map_append
def HN:=@decide_eq_true
def HP:=@List.append_nil
def HQ:=@decide_eq_true_eq
def HR:=@Nat.le_trans
def HS:=@List.not_mem_nil
def HU:=@List.nodup_append
def HV:=@PySem.PassesOwn.never
def HX:=@List.getElem?_set_ne
def HY:=@List.getElem?_map
def HZ:=@Array.getElem?_eq_getElem
def IA:=@Nat.ne_of_lt
def IB:=@if_false
def IE:=@PySem.wpAny_call_entry
def IF:=@List.lookup_cons
def IG:=@Option.some.inj
def IH:=@PySem.wpAny_truthy_bool
def II:=@List.map_map
def IJ:=@PySem.wpAny_holding
def IK:=@List.getElem?_append_right
def IL:=@if_true
def IM:=@List.length_singleton
def IN:=@PySem.sizeLine_eq
def IP:=@Nat.zero_le
def IQ:=@List.map_congr_left
def IR:=@Array.length_toList
def IS:=@List.getElem?_eq_none
def IT:=@List.filter_cons_of_pos
def IU:=@List.filter_cons_of_neg
def IV:=@List.getElem_mem
def IW:=@PySem.wpAny_callSpecial?_slot
def IY:=@List.append_assoc
def IZ:=@List.getElem?_set_self
def JA:=@PySem.Heap.get?_update_other
def JB:=@PyProof.Rows.callWith_type1
def JC:=@PyProof.Rows.wpS_bind
def JD:=@Nat.lt_of_le_of_lt
def JE:=@List.pairwise_cons
def JF:=@List.nil_append
def JG:=@List.length_zip
def JH:=@List.getElem?_append_left
def JI:=@List.filter_eq_self
def JJ:=@PySem.wpAny_mono
def JK:=@of_decide_eq_true
def JL:=@List.flatMap_cons
def JM:=@PySem.F.slot_dict_keyiterator_next
def JN:=@PySem.wpAny_newObj_type
def JO:=@or_false
def JP:=@List.mem_filter
def JQ:=@Int.emod_lt_of_pos
def JR:=@List.all_eq_true
def JS:=@Prod.mk.injEq
def JT:=@PySem.wpAny_field
def JU:=@PySem.Str.length_append
def JV:=@PySem.Heap.SameBut.update
def JW:=@beq_self_eq_true
def JX:=@decide_eq_false_iff_not
def JY:=@Bool.not_true
def JZ:=@PySem.wpAny_rule
def KA:=@beq_eq_false_iff_ne
def KB:=@PySem.mem_of_lookup
def KC:=@List.replicate_succ
def KD:=@List.length_set
def KF:=@List.length_nil
def KG:=@List.find?_cons
def KH:=@Int.emod_nonneg
def KI:=@Bool.eq_iff_iff
def KJ:=@PyProof.Rows.wpS_pure
def KL:=@PySem.wpAny_dictEntries
def KM:=@PySem.wpAny_dictEpoch
def KN:=@Nat.lt_or_ge
def KO:=@Nat.lt_irrefl
def KP:=@List.getElem?_toArray
def KQ:=@List.any_cons
def KR:=@Array.getElem?_toList
def KS:=@PySem.Calls.callWith_builtin
def KU:=@List.drop_eq_getElem_cons
def KW:=@Int.le_refl
def KY:=@PySem.wpAny_Call_Name_kw
def KZ:=@List.length_range
def LA:=@List.filter_congr
def LB:=@Int.toNat_natCast
def LC:=@PySem.Calls.spliced_cons
def LD:=@PySem.F.plainAttrs_list
def LF:=@Bool.and_self
def LG:=@Option.bind_some
def LH:=@Nat.lt_succ_self
def LI:=@List.mem_filterMap
def LJ:=@PySem.Paired.length
def LK:=@PySem.wpAny_typeNameOfWhole_keyiter
def LL:=@Nat.le_of_lt
def LM:=@List.mem_iff_getElem?
def LN:=@List.map_nil
def LO:=@List.length_replicate
def LP:=@List.length_filter_le
def LQ:=@List.forIn_cons
def LS:=@PySem.wpAny_seqItems
def LU:=@beq_iff_eq
def LV:=@List.flatten_cons
def LW:=@List.all_cons
def LX:=@PySem.wpAny_setField_rec
def LY:=@PySem.F.slot_NoneType_hash
def LZ:=@PySem.wpAny_passesOwn
def MB:=@List.nodup_nil
def MC:=@PySem.Heap.get?_update_self
def MD:=@List.cons_append
def MF:=@PySem.F.slot_tuple_iterator_next
def MH:=@PySem.Calls.evalArgs_plain
def MJ:=@PySem.F.plainAttrs_dict
def ML:=@List.length_zipIdx
def MM:=@List.length_eq_zero_iff
def MN:=@List.getElem?_replicate
def MO:=@List.filter_map
def MQ:=@List.filter_filter
def MU:=@PySem.Heap.size_push
def MV:=@List.take_succ_eq_append_getElem
def MX:=@PySem.wpAny_typeNameOf_keyiter
def MY:=@PyProof.Rows.slot_tuple_getitem
def MZ:=@List.mem_range
def NA:=@List.Perm.refl
def NB:=@not_or
def NC:=@PySem.F.slot_dict_get
def ND:=@Nat.ne_of_gt
def NE:=@Bool.not_eq_eq_eq_not
def NG:=@List.zipIdx_cons
def NH:=@List.mem_of_getElem?
def NI:=@PySem.Calls.spliced_nil
def NJ:=@PySem.wpAny_notOrdered_dict
def NK:=@Option.map_some
def NM:=@List.length_reverse
def NN:=@List.filter_sublist
def NO:=@PyProof.Rows.listUpdate_at
def NP:=@List.nodup_iff_pairwise_ne
def NQ:=@Array.getElem?_eq_some_iff
def NR:=@of_decide_eq_false
def NS:=@Nat.le_of_eq
def NT:=@List.zip_cons_cons
def NU:=@List.getElem_range
def NV:=@PySem.wpAny_attempt
def NW:=@PySem.strLen_append
def NX:=@List.pairwise_iff_getElem
def NY:=@List.forIn_nil
def NZ:=@Classical.byContradiction
def OA:=@Bool.not_false
def OB:=@PySem.wpAny_specialOf
def OC:=@PySem.slot_dict_contains
def OD:=@PySem.F.args_tuple_add_2
def OE:=@Option.isSome_iff_exists
def OF:=@decide_true
def OG:=@PySem.F.entry_tuple_add
def OH:=@Nat.le_succ
def OI:=@PySem.SeqAt.EqAt.int_int
def OJ:=@PySem.Obj.data_mapFields
def OK:=@List.length_take
def OL:=@List.drop_length
def OM:=@PySem.Calls.Constant_str
def ON:=@PySem.F.slot_tuple_add
def OO:=@List.take_of_length_le
def OP:=@List.reverse_singleton
def OQ:=@PySem.wpAny_pyIter_enum
def OT:=@PySem.wpAny_Call_method
def OU:=@decide_false
def OV:=@Nat.zero_add
def OX:=@List.zipIdx_nil
def OY:=@List.foldl_cons
def OZ:=@true_and
def PB:=@PyProof.Rows.get?_update_seq
def PD:=@PySem.wpAny_standAt
def PF:=@PySem.wpAny_letGo
def PH:=@List.mem_iff_getElem
def PJ:=@List.getElem?_zipIdx
def PK:=@PySem.wpAny_forIn_list
def PL:=@PySem.F.args_dict_keyiterator_next_1
def PM:=@Bool.and_false
def PN:=@PyProof.Rows.wpS_forRange
def PP:=@PyProof.Rows.listItems_at
def PQ:=@PySem.F.entry_dict_keyiterator_next
def PR:=@List.flatMap_append
def PU:=@List.filterMap_cons
def PV:=@PyProof.Rows.joinParts_cons
def PX:=@PySem.wpAny_loadPart'
def PY:=@PySem.wpAny_isTrue_Compare1
def PZ:=@PySem.wpAny_isOneOf_keyiter
def QA:=@PySem.wpAny_execs_nil
def QB:=@PySem.codeAny_mono
def QC:=@List.filter_append
def QD:=@List.append_of_mem
def QE:=@PySem.F.slot_zip_next
def QF:=@PySem.call_meets
def QG:=@PySem.wpAny_updateSeq_pair
def QH:=@PySem.wpAny_updateDictKeys
def QI:=@bne_self_eq_false
def QJ:=@List.pairwise_map
def QK:=@List.ext_getElem?
def QL:=@PySem.wpAny_setField
def QM:=@PySem.wpAny_fieldsOf
def QN:=@List.mem_flatMap
def QO:=@List.length_drop
def QP:=@List.filter_cons
def QQ:=@PySem.F.slot_dict_setdefault
def QR:=@PySem.wpAny_onRaise
def QS:=@PySem.wpAny_newList
def QT:=@PySem.W.kia_one
def QU:=@Nat.not_lt_zero
def QV:=@List.of_mem_zip
def QW:=@List.mem_zipIdx
def QX:=@List.cons.injEq
set_option hygiene false
section open Lean
def z'E:Nat->Syntax->String
|0,_=>""
|n+1,s=>match s with
 |.node _ k a=>a.foldl (λr x=>r++z'E n x) s!"n{a.size} {(toString k).replace "Lean.Parser." "~"}\n"
 |.atom _ v=>s!"a{v}\n"
 |.ident _ _ v _=>s!"i{v}\n"
 |_=>"m\n"
def z'D(f:SourceInfo):Nat->List String->Syntax×List String
|n+1,x::l=>let r:=(x.drop 1).toString;match x.front with
 |'n'=>let c:=(r.takeWhile Char.isDigit).toString;let (a,l):=c.toNat!.fold (λ_ _ (a,l)=>let (y,l):=z'D f n l;(a.push y,l)) (#[],l);(.node f ((r.drop (c.length+1)).toString.replace "~" "Lean.Parser.").toName a,l)
 |'a'=>(.atom f r,l)
 |'i'=>(.ident f r.toRawSubstring r.toName [],l)
 |_=>(.missing,l)
|_,l=>(.missing,l)
def z'K:List (String×String):=[("P","n3 ~Term.paren\nn2 ~Term.hygienicLParen\na(\nn1 hygieneInfo\ni[anonymous]"),("D","n1 ~Tactic.tacticSeq\nn1 ~Tactic.tacticSeq1Indented"),("E","n2 ~Term.dotIdent\na."),("A","n2 ~Term.app"),("B","n1 null"),("C","n0 null"),("F","n2 null"),("G","n3 null"),("H","n1 ~Tactic.rcasesPatMed"),("I","n1 ~Tactic.rcasesPat.one"),("J","n2 ~Tactic.rcasesPatLo"),("K","n1 ~Tactic.optConfig"),("L","n4 ~Term.basicFun"),("M","n1 ~Term.hole\na_"),("N","n2 ~Term.byTactic\naby")]
def z'Z(r:SourceInfo)(f:String):Syntax:=(z'D r 999 (((f.takeWhile (·≠'\r')).toString.splitOn "\n").flatMap λs=>match z'K.lookup s with|some x=>x.splitOn "\n"|_=>[s])).1
local macro_rules|`(z [$x,*])=>do let a:=x.getElems;let mut r:="";for i in [0:a.size/2] do {r:=s!"{r}\r{match a[2*i]!.raw.isStrLit? with|some s=>s|_=>a[2*i]!.raw.getId.toString}\r{z'E 999 a[2*i+1]!}"};return (Syntax.mkStrLit (z'K.foldl (λr p=>r.replace (p.2++"\n") (p.1++"\n")) r)).raw
def z't't:String:=z ["pc!",(by simp[Cd,Bh,sSeq,Gb,Cj,Cq,Cr,Ev,Du,Cy,Ki,Co,fT,Dj,Aa,Fq,f2,Jn,Jr,Kr,Nt,Lg,Cb,Ds,f1,Ac,Ag,Fy,fC,Gd,Bw,Al,Dl,Eh,Bz,Cf,Bm,Ai,Db,Eg,Av,Dv,Ep,Bi,Au,At,Br,Ap,Ci,Lx,Da,HT.sIx,List.getElem?_cons_zero,List.getElem?_cons_succ]),"!6",(by split at e),"!#",(by refine' DL.bB KX G ?a ?l ?c ?k ?b;(case a=>k_is);(case l=>k_is);(case c=>k_is);(case k=>k_is);(case b=>exact λ_ _ _ _ _ _=>DL.mY λ_=>rfl)),"!O",(by constructor),"#<",(by dsimp only),"!$",(by refine' DL.bB KX G ?a ?l ?c ?k ?b;(case a=>k_is);(case l=>k_is);(case c=>k_is);(case k=>k_is);(case b=>exact λ_ _ _ _ _ _=>DL.oN λ_ _=>rfl)),"!*",(by refine' DL.dN KX G ?a;(case a=>k_is)),"!1",(by obtain⟨ka,bm⟩:=cL ha),"!0",(by intro x y dx dy d G H Q sub rx ry e k),"!.",(by dsimp only;(show W.findIn _ _ _=_);k_is),"!?",(by rename_i hl;cases e),"!c",(by intro z;cases z),"!d",(by by_cases hk:k=d),"!%",(by dsimp only;refine' DL.dO ?a ?i ?l ?c ?k ?b;(case a=>k_is);(case i=>k_is);(case l=>k_is);(case c=>k_is);(case k=>k_is);(case b=>exact λ_ _ _ _ _ _=>DL.oN λ_ _=>rfl)),"!,",(by dsimp only;refine' DL.eR KX G ?a;(case a=>k_is)),"!/",(by intro X hP hw hK hc i J s Z H E I hf st hg;subst hP hw hK),"!5",(by rename_i h;cases e;subst h),"!=",(by obtain⟨t,rfl⟩:=rx),"!F",(by intro J s Z H Q I h),"!7",(by obtain⟨v,rfl,rv⟩:=eL r),"!S",(by simp only[GT,GJ,JS]),"!2",(by obtain⟨f0,f1,f2,f3,f4,f5⟩:=hf it c_),"!;",(by obtain⟨x,e1,e⟩:=GG.mp e),"!I",(by unfold fT;rw[this];rfl),"#$",(by simp only[HL,IB]),"!:",(by obtain⟨q0,h0,rfl⟩:=HB.mp hq),"#,",(by exact hA.live b O),"#6",(by simpa using this),"!(",(by refine' DL.bB KX G ?a ?l ?c ?k ?b;(case a=>k_is);(case l=>k_is);(case c=>k_is);(case k=>k_is);(case b=>exact λ_ _ _ _ _ _=>DL.us3 λ_ _ _=>rfl)),"!+",(by refine' DL.pV KX G ?a;(case a=>k_is)),"!E",(by obtain⟨q,hq,rfl⟩:=HB.mp hd),"!K",(by intro vs ds d G H Q sub r e k),"!P",(by subst e;exact I1.fpOk y_ (I1.hok.fresh y_)),"!o",(by exact k _ G H aO_ Ar.bl),"#%",(by obtain⟨t,rfl⟩:=r),"#7",(by rw[fF_];exact KW _),"!'",(by dsimp only;refine' DL.dO ?a ?i ?l ?c ?k ?b;(case a=>k_is);(case i=>k_is);(case l=>k_is);(case c=>k_is);(case k=>k_is);(case b=>exact λ_ _ _ _ _ _=>DL.us4 λ_ _ _ _=>rfl)),"!3",(by obtain⟨a1,a2,a3,a4,a5,a6,k1,k2,k3,k4,k5,k6,hA⟩:=h';refine m_),"!@",(by intro x y dx dy d M G H Q sub m rx ry e k),"!B",(by obtain⟨o',e1⟩:=I.base.there b o e L),"!G",(by obtain⟨ds,e1,e⟩:=GG.mp e;show"!6"),"!M",(by rename_i h;rw[HK,HK,HQ]at h;cases e),"!R",(by obtain⟨its,r,pl,hz⟩:=I.list hq),"!T",(by obtain⟨o,e,c,d⟩:=st;exact ⟨o,e,λv z=>by rw[d]at z;cases z⟩),"!V",(by obtain⟨a,vs,rfl,qa,ra⟩:=bN rx),"!Y",(by obtain⟨p,vs,rfl,q,rr⟩:=bN r),"!`",(by cases aX rx;cases aX ry;cases e),"!w",(by subst O;rw[bP]at e;cases e),"!x",(by obtain⟨wt,wn,qa,hA⟩:=h),"##",(by subst q1;rw[dG];show"!O"),"#3",(by obtain⟨a,rfl,q⟩:=L),"#@",(by rintro(z|⟨z,_⟩|z)),"#A",(by rintro(z|⟨_,z⟩|z)),"#B",(by rename_i p;cases fA r),"!&",(by dsimp only;refine' DL.dO ?a ?i ?l ?c ?k ?b;(case a=>k_is);(case i=>k_is);(case l=>k_is);(case c=>k_is);(case k=>k_is);(case b=>exact λ_ _ _ _ _ _=>DL.us3 λ_ _ _=>rfl)),"!)",(by refine' DL.bB KX G ?a ?l ?c ?k ?b;(case a=>k_is);(case l=>k_is);(case c=>k_is);(case k=>k_is);(case b=>exact λ_ _ _ _ _ _=>DL.us4 λ_ _ _ _=>rfl)),"!-",(by dsimp only;refine'⟨?pg,?hd,?po,?sa⟩;(case pg=>k_is);(case hd=>k_is);(case po=>k_is);(case sa=>k_is)),"!4",(by obtain⟨v1,t1,rfl,r1,rr⟩:=bQ rr;obtain⟨v2,t2,rfl,r2,rr⟩:=bQ rr;cases cU rr),"!L",(by unfold Am at h;obtain⟨u,r,e1,q,t⟩:=h;subst e1),"!W",(by unfold Ar at h ⊢;obtain⟨a,vs,e,q,r⟩:=h),"!]",(by obtain⟨sl,e1⟩:=I.base.slot b o e n O L),"!^",(by obtain⟨a',b',c',e',hm⟩:=w.sgs x L q hq),"!e",(by refine iP h cn ?_;by_cases c1:i∈W.its),"!h",(by intro J s Z H R I ⟨G,ρ,M,T,st,e,k⟩),"!k",(by cases yV I n r ru<;>cases yV I n' r' ap),"!t",(by simp only[ne_eq,decide_not,NE,JY,JX]),"!y",(by obtain⟨its,r,pl,hz⟩:=I.tuple hq),"!z",(by obtain⟨e,n,ne,nf,d⟩:=I.pin p hp),"!{",(by obtain⟨_,vs,B,Y⟩:=m.cell a _ hM),"!}",(by rw[GL c];exact keep rfl rfl w.inv),"!~",(by obtain⟨a,vs,rfl,qa,ra⟩:=bJ rx),"#!",(by intro vs ds d M G H Q sub m r e k),"#*",(by subst O;rw[mup_same]at e;cases e),"#-",(by obtain⟨ds,e1,e'⟩:=GG.mp e'),"#0",(by simp only[HL,IB,IF,L]at h ⊢),"#5",(by exact hR M rl _ _ st hL .refl),"#9",(by obtain⟨od,ac,hl⟩:=I.look),"#:",(by have c':=NR c;rw[GL c']at st),"#;",(by have c':=JK c;rw[GU c']at st),"#D",(by simp only[GJ,HS,JO,NB]at hc),"!!",(by dsimp only;refine' DL.b9b (DL.eR KX G ?g) ?a ?i ?l ?c ?k ?mm ?kc ?b;(case g=>k_is);(case a=>k_is);(case i=>k_is);(case l=>k_is);(case c=>k_is);(case k=>k_is);(case mm=>k_is);(case kc=>k_is);(case b=>exact λ_ _ _ _ _ _=>DL.mY λ_=>rfl)),"!8",(by obtain⟨ob,eo,ec,ed⟩:=id g1;obtain⟨ot,ym,_,nt,yn⟩:=g2;unfold Builtin.SmallTypes.nextOf;refine GF (IW (name:=j5_) g1.typeIs MF (IE MF g1.typeIs F.entry_tuple_iterator_next ?_ (F.args_tuple_iterator_next_1 _)));show wpAny _ _ (field (.ref jt) 0>>=_) _ _ s),"!9",(by refine cZ bX_ λv s1 ⟨x,H1,I1,r1,q1⟩=>?_;refine cZ f0! λu s2 ⟨y,H2,I2,r2,q2⟩=>?_;exact hf v u s2 x y H2 I2 r1 r2 q2),"!<",(by intro J s Z H Q I h;refine W.methodCall_KW (pl:=pl) (cZ cZ! λu s1 ⟨x,H1,I1,rx,a,dx,fs,ex,ea,l,q⟩=>?_) ht;subst ex;obtain rfl:u=Value.ref a:=rx;refine oB I1 ea c hm l ?_),"!>",(by obtain⟨us,rv,p1,_⟩:=I.list qa;obtain⟨us',ao,p2,_⟩:=I.list qb;have B:=aI rd;have Y:=aI re;have h3:=dJ!),"!A",(by have I1:Inv X J Z H {s with heap:=h'}:=I.turned (t':=s.toks) l4! f0 f1 f3 f4 f5;obtain⟨o,e,c,d⟩:=id h1),"!C",(by unfold Builtin.SmallTypes.ownedTupleIsFree;refine GF (JT gz rfl (x:=.none) rfl ab_);simp only[IL];refine GF ha!;refine GF (JT gz rfl (x:=.ref TO) rfl ?_)),"!D",(by rintro⟨⟨⟩,h1⟩ s' ⟨rfl,a1,a2,a3⟩;dsimp only;obtain⟨L',b1,b2,b3⟩:=sH jp hk fq a1 a3),"!H",(by intro J s Z H x y v u Q I rx ry h;obtain⟨i,j,rfl,rfl,q⟩:=h;show"!=";obtain⟨t',rfl⟩:=ry),"!J",(by show"!1";obtain⟨kb,k8⟩:=cL O;obtain⟨kc,zr⟩:=uW a7;refine iL (aY.trans (congrArg some iN)) ?_;refine ifT (aY.trans (congrArg some a3b)) ?_),"!N",(by obtain⟨i,hi,q⟩:=mO O;obtain⟨p,ds,vs,B,Y,h3,h4,h5⟩:=er.own_ i hi;rw[q]at Y;cases Y),"!Q",(by have l1:=congrArg List.length e;have l2:=congrArg List.length e';simp[Js]at l1 l2;omega),"!U",(by obtain⟨cl,bq⟩:=b3n (X:=X) (scope:=scope) λp hp hf=>I.ok.has p.1 (g9 p hp hf)),"!X",(by simp only[(show Builtin.Dict_items.ownsTuple "dict_keyiterator"=false by decide),HL,IB];show wpAny L! A.in1 (if(Value.ref d==dz!)=true then _ else _) _ _ s;rw[(GL (λz:(Value.ref d==Value.none)=true=>HF z))];refine GF (GH (GF (KL s9 td ?_)));rw[av_]),"!Z",(by have hT:=az.typeIs;obtain⟨o,ho,hc,hd⟩:=id az;obtain⟨od,s9,_,td⟩:=id D),"![",(by refine GF (JT eo ed (x:=.ref tt) rfl ?_);rw[(GL (show¬((Value.ref tt==Value.none)=true)from HF))];refine GF (JT eo ed (x:=.int n 0) rfl ?_);refine GF (LS ym yn ?_);simp only[LB,g3]),"!_",(by have I1:Inv X J Z H {s with heap:=h',toks:=tk}:=I.turned l5_ f0 f1 f3 f4 f5),"!a",(by obtain⟨o,es,ep,ho,r⟩:=hm;refine ⟨o,es,ep,kp _ o ?_ ho,r⟩;simp only[GJ,HS,JO,NB];exact ⟨GN fz.2.1,GN fO.2.1,GN f1.2.1,GN f2.2.1⟩),"!b",(by obtain⟨gh,H3,I3,n3⟩:=q3;obtain⟨m',hm,w3⟩:=hN gh H3 n3;exact ⟨m',hm,gh,H3,I3,w3⟩),"!f",(by obtain⟨i,hi⟩:=LM.mp hv;obtain⟨d,_,p⟩:=fW z hi;exact⟨_,_,p⟩),"!g",(by obtain⟨e,he,hv⟩:=hi.2 i acc[i] (by rw[HZ B]);rw[he,KR,HZ B,hv];rfl),"!i",(by have:X.env.scope.names.lookup x=some .free:=hk;rw[k]at this;cases this),"!j",(by have hf:=a7n x k;have hl:∀i∈plc es dr_,i<es.size:=λi hi=>b7u hi),"!l",(by obtain⟨v,rfl,r1⟩:=eL r;obtain⟨p,ys,rfl,q,rr⟩:=a0u sub m r1 e1),"!m",(by obtain⟨hi,r1⟩:=r1;obtain⟨p,dx,vs,rfl,rfl,hH,hl⟩:=a7b m1 q1 hi),"!n",(by simp only[sliceBounds,HT.sIx,Option.getD_none,(show(1:Int)>0 by decide),IL];by_cases h:i<0),"!p",(by show"!;";obtain⟨q,e2,e⟩:=GG.mp e;obtain⟨YT,e3,rfl⟩:=GR.mp e),"!q",(by show"!/";obtain⟨xs,hq,L⟩:=hg;obtain⟨its,rv,p,hz⟩:=I.list hq),"!r",(by obtain⟨e1,e2⟩:=B b O hr;obtain⟨e3,e4⟩:=Y b nA! e2;exact ⟨e3.trans e1,e4⟩),"!s",(by intro x L;obtain⟨r,f,p',g1,g2,g3,g4,g5⟩:=hA.row x L;exact nF_),"!u",(by obtain⟨_,_,_,_,o,_,_,e,ex,_⟩:=I.hok p _ hk;exact⟨o,e,ex⟩),"!v",(by show (wpAny _ _ (field g9_ 2>>=_) _ _ _);refine GF (JT gz rfl (x:=.bool false) rfl ?_);refine GF (JT gz rfl (x:=.ref TI) rfl ?_);refine GF (LS gI rfl ?_);refine GF ?_),"!|",(by show"!1";refine iL (aY.trans (congrArg some iO)) ?_;refine iL (aY.trans (congrArg some gX)) ?_;refine ifT (aY.trans (congrArg some a3c)) ?_),"#&",(by show(Lp ys).map (λbs=>D.bl oa_)=_;rw[xJ hr];show some (D.bl ((qv!).all id))=_;rw[(JR.mpr λx L=>by obtain⟨_,_,rfl⟩:=HB.mp L;rfl)]),"#'",(by show o5_=_;rw[GL h0,GL B,GL Y,GL x3,GL x4,GL x5,GL x6]),"#(",(by obtain⟨oc,od,kV,bo,pm,an,ae,ct,dt,rfl,lk,bv⟩:=F.ex),"#)",(by have rs:∀j∈rest,j<es.size:=λj hj=>Y j (GI _ hj)),"#+",(by subst hj;rw[hi]at e1;cases e1;rw[IZ SA]at e2;cases e2),"#.",(by unfold pyNext;refine GF (NV (IW (name:=j5_) hT JM (IE JM hT PQ ?_ (PL _))));refine GF (GH (GF gj_))),"#/",(by have ne:∀{b u},H b=some u->b≠p:=λe=>cD e hp),"#1",(by rw[GQ,GQ,<-h3,<-h4,<-B,<-Y];by_cases hl:f_=ae!),"#2",(by obtain⟨its,rv,⟨o,B,Y,n,h3⟩,_⟩:=I.tuple j3_),"#4",(by obtain⟨B,Y⟩:=hA.mq i hi;rw[aw _ pq_];exact pj_),"#8",(by rename_i kvs ep hM;obtain⟨kk,e1,e2⟩:=GG.mp e),"#=",(by cases dW ry;cases e;refine m_;rw[yW rx];show"!o"),"#>",(by simp only[Op.nm,D.tup.injEq,QX,D.int.injEq]at e),"#?",(by rw[pR le_,pR lf!];exact b1n (mm p hp) (mm q a8)),"#C",(by have hi:i=fj!:=Nat.le_antisymm st.1 hg;subst hi),"#E",(by obtain⟨ad,kvs,vs,j0,TD,yj,yk,hn,hs⟩:=hd.ex),"#F",(by cases e;refine ⟨G,ρ,_,er,?_,k⟩;show((Option.some ds)).bind _=_;simp[hl])]
def z'0:String:=z [a!,(by omega),b!,(·.1),c!,(by decide),d!,Inv X J Z H s,e!,hr.mono c!,g!,List ay_,h!,Txt P w K mg t,i!,wl n!,j!,List Nat,k!,List V,l!,GU rfl,n!,Aa 0,o!,List Op,p!,Value->Shared->Prop,q!,Fl->Mh->Prop,r!,(by omega),u!,wl s_,v!,aQ _,w!,Aa 2,x!,.fn p,y!,s1.heap.objs.size,z!,some ck!,A!,some aw_,B!,Aa 5,C!,arrOf st,D!,List Int,E!,aA 0,F!,(x==("__debug__":Str))=false,G!,some x1,H!,(by simp),I!,some x!,J!,List α,K!,Bg G H,L!,model P w,M!,some i,N!,s2.heap.objs.size,O!,l.length,P!,bG x_,Q!,aC aj_,R!,Gl X x,S!,ps.length,T!,.str k,U!,[ai!,ar!],V!,aA 1,W!,(by decide),X!,some (scr ns),Y!,oF a1 a2 a3 a4 a5 a6,Z!,List DictEntry,Aa!,Ay z9_ wn E_,Ab!,HA.mpr ⟨HS,MB⟩,Ac!,.Call (.Attribute bn! "insert" ag) [ek,e] [] ab,Ad!,.Call (.Attribute bn! "extend" ag) [e] [] ab,Ae!,mirror xs i j ((j - i) / 2),Af!,iQ [(t.B2,a)] (one ⟨_,i9,rX B⟩) c_,Ag!,(by simpa using c),Ah!,((hs os 5).length:Nat),Ai!,(show x - 1<a0.size by omega),Aj!,(by show¬((0:Int)=5);decide),Ak!,h m st b h3 h4 u,Al!,(by show¬((5:Int)=0);decide),Am!,(∀i,i<lo->rk r A_ i<=rk r A_ k),An!,⟨rfl,lo,lo,rfl,g2,g4,g5⟩,Ao!,fx ρ=some di!,Ap!,.int (t+1+m / 3%3),Aq!,pendingOf h1,Ar!,fU rfl (fU rfl rfl b8z) rfl,As!,zE (GH (GH (GH h))),At!,[X!,an_,hG_,k2_,some (.lst [.int c0,.int c1,.int c2]),some (.lst [.int t0,.int t1,.int t2]),x6,x7,x8,x9],Au!,λv hv R hR=>?_,Av!,λa b e=>?_,Aw!,Tx ft ρ M true,Ax!,l.filter λx=>Kq x q,Ay!,Str.ofString "taken",Az!,(Str.ofString "taken",.fn ta),AA!,B.mem_iff.mp (IV cr),AB!,bL (d:=kV_) rfl,AC!,bL (d:=.int 1) rfl,AD!,(c,seqObj "list" ku.toArray n),AE!,.obj t.B3 [fG_],AF!,mup_ne (GN xb),AG!,.obj t.B3 k8!,AH!,Ay M p (.lst (xs++[v])),AI!,(by rw[hp];simp),AJ!,(c,seqObj "list" ku.toArray e),AK!,Inv X (J++[lc!,AJ!]) Z H s,AL!,.lst ((la_).map Op.v++[o.v]),AM!,Obj.mapSeq λ_=>(#[]:Array Value),AN!,mup_ne (GN aw),AO!,.dct (fH!++AN_) ba_,AP!,Array.toList_inj.mp,AQ!,Li s.heap p.1,AR!,⟨Array.Perm.refl _,rfl,rfl,rfl⟩,AS!,(by rw[hsz];exact nz),AT!,BY s.heap l1 l2,AU!,(by rw[b3,hd]),AV!,⟨_,PB ha λ_=>#[]⟩,AW!,NO ha rfl ?_ lb! cI_,AX!,wpAny_newTuple ?_ (by show ap_<=_;rw[IN];omega),AY!,[u_,none,none],AZ!,JA _ _ (λz=>O (by rw[z];exact GY.mpr rfl)),A0!,hR M' gw g7 iw,A1!,(by rw[<-e];exact hl),A2!,(by rw[IN];omega),A3!,some (.inr [.inl o.h,.inl o.n]),A4!,Ay M p (.dct (qe!++[li!]) ba_)]
def z'00:String:=z [a_,Or.inl rfl,b_,List D,c_,(by simp),d_,Ad->Option D,e_,model X.prog X.w,f_,ds.length,g_,⟨rfl,rfl,rfl,ew_,rfl,ew_,ew_⟩,h_,List Value,i_,xs.length,j_,List Str,k_,aC E!,l_,List et_,m_,⟨rfl,?_⟩,n_,(by decide+kernel),o_,s.heap.objs.size,p_,["thing"],q_,model prog w,r_,λ_ _=>rfl,s_,Aa 1,t_,fC aS!,u_,some dg_,v_,D->Mh->Prop,w_,aC V!,x_,Ak.units hr,y_,HD _,z_,(·.2),A_,arrOf h1,B_,Str->Option Value,C_,fC G_,D_,.bl true,E_,.dct [] 0,F_,Aa 3,G_,.int 0,H_,⟨_,rfl⟩,I_,λ_=>True,J_,.lst xs,K_,some x0,L_,wl w!,M_,ys.length,N_,(by rw[hA.ro];simp),O_,Aa 4,P_,k+1,Q_,DE X own a fa,R_,Bn 0,S_,[aV_,aN!],T_,Bq M w rl W,U_,fC bt_,V_,Bs 3,W_,List D->Option D,X_,(a,b),Y_,some o.v,Z_,ME X own a fa,Aa_,.dct (k3 bU_ kE_ ek_) 3,Ab_,.str "numbers",Ac_,⟨by rw[GX];unfold big;omega,?_⟩,Ad_,s.cps.toList.map λ_=>.bl true,Ae_,getElem?_pos _ k cr,Af_,λi j h3 h4=>?_,Ag_,((hs os 0).length:Nat),Ah_,((hs os 15).length:Nat),Ai_,(λi h4 h5=>by rw[show i=x+1 - 1 by omega]),Aj_,(by show¬((0:Int)=15);decide),Ak_,λi j h5 h6=>?_,Al_,(by show¬((5:Int)=15);decide),Am_,(by show¬((15:Int)=0);decide),An_,(by show¬((15:Int)=5);decide),Ao_,cs.set k (.int (c+1)),Ap_,ts.set k Ap!,Aq_,(none,a0.size),Ar_,λ_ _ z=>z,As_,(∀x∈xs,∀(R:β->Shared->Prop),(∀y,F x y->R y s)->wpAny q_ A (f x) R E s),At_,[X!,an_,hG_,none,none,none,none,none,none,none],Au_,ys.toArray.filterMap id,Av_,(Value.type "int"::r),Aw_,l.filter λx=>Kq x p,Ax_,Str.ofString "ours",Ay_,Str.ofString "waiting",Az_,λp=>Jc p1! (Li h p.1),AA_,⟨[a],[(Str.ofString "key",v)]⟩,AB_,iA cn! (hA.nob hM1) (bL (vP o)) (a3o hA),AC_,Fk X.prog X.w X.K X.mg X.base Pk k f fd ps v1_,AD_,Ay M a (.obj t.B3 []),AE_,.obj t.B3 k7_,AF_,(by show _<100;simp),AG_,mup_ne (GN RP),AH_,Ay fJ! p (.dct (Aq kvs y bj_) ba_),AI_,∀H':Hp,H' c=none->Iw X J H' c,AJ_,(by rw[hA.cl h hh];simp),AK_,ksk_tail a false e1 (.ref c) st,AL_,Ea t.B3 "outline" i! bZ! hI_ M2 _,AM_,mup_ne (GN at_),AN_,[(.int o.h,.fn q)],AO_,List.map_fst_zip qc!,AP_,λv hv=>?_,AQ_,λx y F Q L hy hq=>?_,AR_,(by rw[hsz];omega),AS_,⟨a1,a2,a3⟩,AT_,Jc hL_ (Li s.heap p.1.1)<Jc hL_ (Li s.heap q.1.1),AU_,s.heap.get? a=some (seqObj "list" us.toArray n),AV_,PP ha rfl ?_,AW_,seqEpoch_at tz rfl ?_,AX_,⟨ar b dZ_,hr⟩,AY_,bL (f:=Aa 0) rfl,AZ_,GK _ ((AZ!).trans q),A0_,[u_,G!,some lg!,Y_],A1_,checkCount "sorted" 1 1 _,A2_,⟨_,la,rfl⟩,A3_,(by rw[he];rfl)]
def z'a:String:=z [aa!,Array Value,ab!,o_+1,ac!,List dV!,ad!,.tup S_,ae!,es.length,af!,[a,b],ag!,f ρ,ah!,(by rw[u3];simp),ai!,"self",aj!,wl O_,ak!,aA 5,al!,⟨#[c]⟩,am!,Ad->Option aF_,an!,A.units<cLine,ao!,W.txt a,ap!,rs.length,aq!,List Addr,ar!,"name",as!,[ar_,cp_],at!,fC aB_,au!,.ref C,av!,aC aD!,aw!,W.rows.length,ax!,(by rw[hA.r2];simp),ay!,some (.lst ops),az!,.fn a,aA!,.inl rfl,aB!,r.length,aC!,aM aL!,aD!,aA 3,aE!,(aC by!),aF!,Cc t M o rl W hb,aG!,(by rw[u4];simp),aH!,Ad->Option Fl,aI!,os.map Op.v,aJ!,EP X J Z Q,aK!,(e::es),aL!,aM (λ_ _ h=>bC h),aM!,Js xs,aN!,.int n,aO!,⟨trivial,?_⟩,aP!,List cf_,aQ!,its.toArray,aR!,[ai!,aI_],aS!,.int 1,aT!,(q2_).any b!=false,aU!,.fn o,aV!,(by rw[hA.r4];simp),aW!,D->D->Option D,aX!,Ih ops,aY!,((k:Nat):Int),aZ!,PE X a ta,a0!,Ac n! Ag,a1!,i+1,a2!,aL aH aJ E! aB r_,a3!,bU P! bF k_ aS_ r_,a4!,GU hk,a5!,Option Int,a6!,.lst ys,a7!,(x,p),a8!,hb+20,a9!,Str.ofString ""]
def z'aa:String:=z [aa_,.ref a,ab_,GH ?_,ac_,Option D,ad_,D->Ad->Option Ad,ae_,.ref f,af_,Ad->Option Bool,ag_,s.length,ah_,X.N[i]?=some x,ai_,wl F_,aj_,aA 2,ak_,starEach aK! X.env=eQ!::starEach es X.env,al_,λi hi=>(by cases hi),am_,.nx ρ,an_,some j4_,ao_,some bj_,ap_,us.length,aq_,List Env,ar_,"hand",as_,.bl false,au_,aC aB,av_,GL c_,aw_,.fn o,ax_,(by rw[hA.r6];simp),ay_,D×D,az_,kvs.length,aA_,[cq_],aB_,.int 3,aC_,bY x_,aD_,GL hk,aE_,W.txt x,aF_,List D,aG_,(by rw[u5];simp),aH_,X.A.units+64<cLine,aI_,"item",aJ_,λ_=>some true,aK_,wl C_,aL_,dH 0,aM_,some x,aN_,(by rw[hA.r5];simp),aO_,Ce.refl sub,aP_,os.length,aQ_,[ai!],aR_,[ar_],aS_,aC aP,aT_,λx L=>?_,aU_,(by rw[hA.r3];simp),aV_,.int h,aW_,.rt d,aX_,GU a!,aY_,[fV_],aZ_,I.tok _,a0_,f2 Ai n! C_,a1_,f2 Ai w! at!,a2_,.type "str",a3_,aL aH aJ aj_ aB r_,a4_,Option Addr,a5_,its.toArray.size,a6_,.fn r,a7_,Fh W n rows',a8_,.str s,a9_,(λ_ _ e=>by cases e)]
def z'b:String:=z [ba!,List MK,bb!,d+1,bc!,"_law_k",bd!,"_law_one",be!,λb O=>?_,bf!,Bs 2,bg!,.Call (.Name x p) aK! [] pos,bh!,w2 Bt i! tV_,bi!,u++v,bj!,chl W.rows x,bk!,W.txt i,bl!,i∉own,bm!,some ad!,bn!,.Name x b7,bo!,Dm d=some k,bp!,.fn w,bq!,fs.length,br!,X.N.Nodup,bs!,Bp v u,bt!,"_law_item",bu!,X.calm=true,bv!,Ir false,bw!,g i j,bx!,f2 Ai w! C_,by!,aA 4,bz!,⟨_,_,rfl⟩,bA!,(i,p),bB!,.type "bool",bC!,(by rw[v3];simp),bD!,(d,x),bE!,if _ then _ else _,bF!,.tup xs,bG!,[cp_],bH!,[ar_,lH!],bI!,.bl b,bJ!,eH I q c_,bK!,[D.non],bL!,K w.params,bM!,Addr->Od,bN!,.int m,bO!,.ref σ,bP!,GI _ L,bQ!,λd hd=>?_,bR!,Cu X.K G d u,bS!,ME X own e f,bT!,Mh->D->D->Option D,bU!,u.length,bV!,[K_,M!,cC!,dl!,hw!,kx_,y],bW!,[z!,K_,some eb!,bm!,some (.bl g),none,none,none,none,none],bX!,"outline",bY!,"_law_world_here",bZ!,wl cd!,b0!,Bf u!,b1!,Aa 8,b2!,aD E! aK,b3!,Gq X (compareOp op) r,b4!,aA 8,b5!,Ak k X.A,b6!,Array tw!,b7!,absurd z.symm q1,b8!,scope.names,b9!,x∈W.its]
def z'bb:String:=z [ba_,ep+1,bb_,.int i,bc_,.int i,bd_,(by simp;omega),be_,Aa 6,bf_,[dP!],bg_,Aa 9,bh_,.type "list",bi_,List e3!,bj_,.fn q,bk_,λb h=>?_,bl_,Or.inr rfl,bm_,.int 0,bn_,some (.int most),bo_,mup_ne O,bp_,mixKind P w,bq_,Nz P w H h,br_,Wa X.env.scope x,bs_,List Expr,bt_,.int 2,bu_,I.ok.hd hc,bv_,Aa 7,bw_,Ab i! Af,bx_,vs.length,by_,aC a3_,bz_,Ae st,bA_,.type "int",bB_,.type "tuple",bC_,n+1,bD_,.int o.h,bE_,Cm t M a ta wa out S kl ca,bF_,k _ _ aA! e,bG_,List Stmt,bH_,"_law_script",bI_,⟨rfl,rfl⟩,bJ_,aA 6,bK_,Array DictEntry,bL_,Dc st,bM_,(by rw[hA.r1];simp),bN_,ρ.set i d2!,bO_,M p=some hr_,bP_,some (.int m0),bQ_,[G!,I!,Y_],bR_,MR P w K M G H,bS_,q1.mono x2.g,bT_,MR X.prog X.w X.K M G H,bU_,.lst [],bV_,Jg P w K own M0 G0 F0 M G H Z ρ,bW_,GY.mp z,bX_,ha J s Z H _ I h,bY_,[bY!,bt!],bZ_,.ref it,b0_,Ab u! Af,b1_,.str "undo",b2_,wl eI_,b3_,Ab i! b0_,b4_,gN x_,b5_,eX (bM aC_ bZ a3_ aP v!),b6_,ns.map V.int,b7_,(by rw[q];simp),b8_,⟨rfl,h⟩,b9_,Nd X scope cl C gE_ al a9 fp]
def z'c:String:=z [ca!,mup_ne B,cb!,OR K own G H Z ρ,cc!,cs.length,cd!,fC .non,ce!,wl fo,cf!,Be d=true,cg!,some ol_,ch!,[.lst cJ_],ci!,x1.trans x2 m1,cj!,M a=some hr_,ck!,.fn w,cl!,acc.length,cm!,Array Keyed,cn!,bL rfl,co!,seqObj "list" #[] 0,cp!,(·++·),cq!,PE X b tb,cr!,X.mg x=none,cs!,PE X e te,ct!,As t.B4 "rows" i!,cu!,y.length,cv!,ns.length,cw!,aA 9,cx!,vs.toArray,cy!,λx=>!x.1,cz!,λx=>x.1.isSome,cA!,wo rows i,cB!,im x,cC!,some p,cD!,Am K H ds vs,cE!,H p=none,cF!,.Name x p2,cG!,λd hd=>?_,cH!,(by rw[v5];simp),cI!,some item,cJ!,(kk!).Nodup,cK!,.type "tuple",cL!,Addr->LR,cM!,((i:Nat):Int),cN!,Mh->Prop,cO!,λx L hh=>?_,cP!,Cu X.K G,cQ!,h.objs.size,cR!,upd H a o,cS!,HI e,cT!,.inl rfl,cU!,List V->Hp->Prop,cV!,(x==("__classdict__":Str))=false,cW!,"_law_number_here",cX!,Tr W.rows,cY!,Bh (fC as_),cZ!,he J s Z H _ I h,c0!,Ac s_ Ag,c1!,Ab L_ Af,c2!,((0:Nat):Int),c3!,Ac w! Ag,c4!,⟨rfl,rfl,rfl,rfl⟩,c5!,.ref p,c6!,vs++dvs,c7!,aF k_ aO,c8!,items.size,c9!,Bs 7]
def z'cc:String:=z [ca_,some nJ_,cb_,Ar K G d v,cc_,.tup jC!,cd_,DE X own b fb,ce_,[none],cf_,Str×D,cg_,[aV_,d3!],ch_,Dm y=some k,ci_,ME X own b fb,cj_,l[j],ck_,ME X own o fo,cl_,.nx ρ',cm_,SB kd a0 st,cn_,(s.heap.update a AM!).push (seqObj "tuple" us.toArray 0),co_,λp hp=>?_,cp_,"operation",cq_,"_law_ops",cr_,x≠"__name__",cs_,fC (.int 4),ct_,List V->Hp->VK->Prop,cu_,aC dI,cv_,aA 7,cw_,aF w_ aO,cx_,nd!=true,cy_,backToKw ab s4!,cz_,.inl z,cA_,(s,p),cB_,mup_ne Y,cC_,us.toArray,cD_,.lst ds,cE_,f ρ=some d,cF_,if Ff W a then a else Bo,cG_,(by rw[v4];simp),cH_,(.str k::r),cI_,IP _,cJ_,ops.map Op.v,cK_,λz=>?_,cL_,(by rw[GX];unfold big;omega),cM_,[some hA_,kR_],cN_,Qy W hb,cO_,lo+hi,cP_,(by simpa using e),cQ_,α->β->Prop,cR_,[a,b,c],cS_,Unit->Shared->Prop,cT_,[ai!,aI_,"parent","sibling"],cU_,Ww X.env.scope x,cV_,.Name x pos,cW_,[bH_,bc!],cX_,[bY!,bt!,ri!,vO!],cY_,At U_,cZ_,eval o X.env,c0_,As t.B5 "following" i!,c1_,.ref o_,c2_,∀x,foldedSetIterable iter X.env x=pure x,c3_,dX aB,c4_,Bs 6,c5_,ps.zip us,c6_,⟨us,[]⟩,c7_,aF k_ cw_,c8_,.ref o_,c9_,bE T.U0 T.U1 k_]
def z'd:String:=z [da!,⟨_,e,rfl⟩,db!,dF _ _ e5!,dc!,(by rfl),dd!,scope.kind=.function,de!,Str.ofString "rows",df!,Ff W x,dg!,λq hq=>?_,dh!,.tup ds,di!,.int j,dj!,DE X own e f,dk!,.Name x p2,dl!,some s,dm!,λb h=>.inl h,dn!,GU dm_,do!,some 1,dp!,Rh W pre,dq!,⟨by simp[big];omega,?_⟩,dr!,Hg ks k,ds!,[G!,I!,ao_,Y_,hk!],dt!,kget kvs d,du!,Ay M p E_,dv!,[z!,K_,zD!,fA!,y4,some kQ_,hx_,kx_,none,none],dw!,Ua prog w A s a0 kd r,dx!,hF ta wa out,dy!,Hist ms,dz!,Value.none,dA!,a==sysModules,dB!,KO _,dC!,some v,dD!,l.map D.str,dE!,.str x,dF!,.Compare a [op] [b] pos,dG!,f2 Ai n! t_,dH!,.fn t.A0,dI!,some re!,dJ!,rv.length,dK!,⟨_,dJ_,rfl,rfl⟩,dL!,f2 Ai w! U_,dM!,xs.isEmpty,dN!,As t.B3 "taken" i!,dO!,List (Str×Value),dP!,.ref a,dQ!,Ez X.K fd ps ds,dR!,Lq CX X E,dS!,.ref b,dT!,z.length,dU!,El t M r f p xs,dV!,D×D×Bool,dW!,chl rows x,dX!,a∈W.its,dY!,Str.ofString "texts",dZ!,i∈W.its/\Ff W x/\¬Wn W.rows i x,d0!,(by rw[g4];simp),d1!,(d::ds),d2!,some d,d3!,.int m,d4!,sgn h n,d5!,fa ρ,d6!,s.cps.toList.zipIdx.map d4!,d7!,.lst vV_,d8!,.dct (Aq k4 n bj_) e4,d9!,some n]
def z'dd:String:=z [da_,dF _ _ jp_,db_,(c,x),dc_,Dq X scope NF ix,dd_,∀y∈b8!,y.2≠.cell,de_,X.pn++J,df_,(by rw[g3];simp),dg_,.fn a,dh_,.lst vs,di_,er.grow s1,dj_,s1.trans s2,dk_,Dm a=some ka,dl_,scr ns,dm_,(by unfold big;omega),dn_,Eo d d',do_,.Tuple fm n1 tp,dp_,Ug W x,dq_,λ_ K hK=>?_,dr_,mkHash P w k,ds_,λx L=>fr!,dt_,az_<big,du_,[z!,M!,aM_,dl!],dv_,λc=>?_,dw_,Int×Int,dx_,.int i t,dy_,ms.map Op.v,dz_,Str×V,dA_,List β,dB_,X.s₀.heap.objs.size,dC_,["sign"],dD_,Bool->Hp->Prop,dE_,behindInMarks op b=false,dF_,f1 Bm a0!,dG_,f2 Ai n! U_,dH_,.str "cut",dI_,Nat->Heap->Prop,dJ_,HG _ rfl,dK_,(false,eval a X.env),dL_,i.natAbs,dM_,.dK kvs,dN_,Sem Bool,dO_,Ud X.K C,dP_,Fk X.prog X.w X.K X.mg X.base CX k f fd ps sp,dQ_,Ba dvs ds,dR_,aG (bR w_),dS_,aF Q! aO,dT_,([]:List Keyword),dU_,kput_len _ _ _,dV_,Aj N ps bz_,dW_,GI _ hy,dX_,Str.ofString "parents",dY_,Nd X scope cl G2.objs.size gE_ s2 H2 fp,dZ_,(by rw[hr];simp),d0_,(by rw[g5];simp),d1_,.tup jw_,d2_,List.range m.toNat,d3_,i∈own,d4_,some b,d5_,Ic X.K r g,d6_,.str s,d7_,Ay (Ay M5 a3 nV_) q d7!,d8_,k _ G H aO_ Ar.int,d9_,k _ G H aO_ Ar.bl]
def z'e:String:=z [ea!,λx fg hy=>?_,eb!,.tup [jT!,a,b],ec!,Ar X.K H d v,ed!,JV ..,ee!,.tup cH_,ef!,jV!<64,eg!,some o.v,eh!,Jx P w s.heap k u,ei!,{s with toks:=tk},ej!,[G!,A!,ao_,some x.v,some x.nm],ek!,A.units+1<cLine,el!,Bj q,em!,rs.map Bj,en!,[bD!],eo!,(ao!).map Bd,ep!,hb<3800,eq!,arrOf bj,er!,bL (d:=bm_) rfl,es!,some ll!,et!,(fO_).zip ds,eu!,OS t M a o rl W,ev!,Nat×D,ew!,Z.set i dC!,ex!,eval e X.env,ey!,"_law_deed_here",ez!,T.T bb!,eA!,.BoolOp .Or (b::rest) pos,eB!,.UnaryOp .Not a pos,eC!,[v,ov,iv],eD!,[z!,G!,f4!,if!,if_,gT!,ao_,some h2_],eE!,.int j,eF!,Value->Value->Sem Value,eG!,Eu n!,eH!,bA (bO gR),eI!,.str "put",eJ!,(show false=true from hs),eK!,bE T.T8 T.V0 k_,eL!,aD V! aK,eM!,some ae_,eN!,aD aj_ aK,eO!,λ_=>rfl,eP!,nS x_,eQ!,(false,eval e X.env),eR!,aL aH aJ V! aB r_,eS!,A.handled=none,eT!,.builtin id,eU!,dA 3,eV!,At B!,eW!,At be_,eX!,if(dT_).isEmpty then 0 else 1,eY!,its.length,eZ!,xs++[y],e0!,λa b=>?_,e1!,Aq kp n a0,e2!,W.num x,e3!,Str×Addr,e4!,D×D×Bool,e5!,.inr z,e6!,⟨1,?_⟩,e7!,V.ref a,e8!,.int y,e9!,upd H p o]
def z'ee:String:=z [ea_,(by simp;omega),eb_,.tup [.str "cut",a,.tup jw_,d3!],ec_,Sum.inr y,ed_,.int v,ee_,(oU!).Nodup,ef_,Bool->Shared->Prop,eg_,some hi!,eh_,wl fa,ei_,l.map b!,ej_,.int o.tm,ek_,.fn wn,el_,[some el!,aM_],em_,[K_,M!,cC!,dl!,hw!,hx_,kx_],en_,W.its.map λi=>(i,D.lst kF!),eo_,dE d es ep,ep_,j - 1,eq_,(a,oa),er_,Ik g,es_,List dz_,et_,Addr×Obj,eu_,bL (d:=aU!) rfl,ev_,Str.ofString " ",ew_,(by decide+kernel),ex_,Ba vs us,ey_,.BoolOp .And (b::rest) pos,ez_,.BoolOp .And (a::b::rest) pos,eA_,.BoolOp .Or (a::b::rest) pos,eB_,Nw i,eC_,Kj 0 1,eD_,As t.B4 "texts" i!,eE_,Bs 4,eF_,binaryOp .Add,eG_,An 4 (wl (Ep F_ Au cY_)),eH_,Bf L_,eI_,f2 Ai w! t_,eJ_,λ_ _ _ _ _=>zA,eK_,x.length,eL_,As t.B3 "waiting" i!,eM_,s.heap.push iG!,eN_,.ins C dx fs,eO_,LH _,eP_,backToKw pos s4!,eQ_,us++ds,eR_,PA X aK! t,eS_,IK gt!,eT_,.type T,eU_,.str "rows",eV_,bE T.T9 T.U4 k_,eW_,⟨.bl _,H,I,rfl,?_⟩,eX_,Aq l d v,eY_,Jm aM!,eZ_,⟨e,?_⟩,e0_,Aq kf a0 n,e1_,.ref fa,e2_,Bg H H',e3_,List u7!,e4_,Str.ofString "numbers",e5_,[aU!,x],e6_,Dm i=some ki,e7_,hb+1,e8_,.int x,e9_,Bg.refl G]
def z'f:String:=z [fa!,Km own Z G H,fb!,fs ρ,fc!,if x=n then _ else _,fd!,f2 ρ=some b,fe!,⟨G,ρ,_,er,e1,vS_⟩,ff!,SR K own G0 F0 G H Z ρ,fg!,.tup wA_,fh!,cs.map λc=>(al!:Str),fi!,Dr N,fj!,x.cps.size,fk!,[z,TO,i1,i2],fl!,K.In h,fm!,λ_=>true,fn!,HN rfl,fo!,.bl hf!,fp!,λx L=>hd x bP!,fq!,λi hi=>?_,fr!,(by simp[W0]at L),fs!,Bl dX_ fr_ [],ft!,kvs.map b!,fu!,Il kvs,fv!,h3.typeIs,fw!,Ue X.K H dx,fx!,Dm y,fy!,st.grow x1 m1,fz!,q.1=x,fA!,some nm,fB!,[some hA_,fA_,bm!],fC!,(by unfold Xe;omega),fD!,(t.A0,a),fE!,wpS_get ?_,fF!,eJ B,fG!,List hH!,fH!,kl.map λh=>(D.int h,D.fn hH_),fI!,((la_).length:Nat),fJ!,Ay M q bU_,fK!,Cu K G,fL!,pO_<64,fM!,bL (d:=.fn p) rfl,fN!,xs++ys,fO!,us.toArray.zip cC_,fP!,tupleKind bp_,fQ!,((et!).map z_).map Nf,fR!,aV (cD q hn),fS!,List α->Prop,fT!,bL (d:=x) rfl,fU!,["thing","limit"],fV!,["parts","checks"],fW!,"other",fX!,[ai!,aI_,"parent"],fY!,[bX!,ar!,"deed"],fZ!,[ai!,fW!],f0!,O J s1 Z H1 _ I1 q1,f1!,PT X a tA,f2!,fC (.int 16),f3!,.str "root",f4!,some x2,f5!,PassesOwn e_ X.A X.env X.xe,f6!,Rv (Jv 1 Ag),f7!,Di (Cy (fT ih_) in_),f9!,[K_,G!,f4!,some mc_]]
def z'ff:String:=z [fa_,(by rw[q3];simp),fb_,(λz=>nomatch z),fc_,f1 ρ=some a,fd_,[A!,d9!,some a,d4_,some pl],fe_,cE.mp hc,ff_,V.ref p,fg_,Be d'=true,fh_,(by show A.units+1+Dz xs<cLine;omega),fi_,some (.lst kinds),fj_,Option Value->Shared->Prop,fk_,λc hc=>?_,fl_,h.Ns mainGlobals mg,fm_,List Tw,fn_,GZ c_,fo_,(∀b,b≠p->M' b=M b),fp_,mup_ne O,fq_,(none,()),fr_,.fn a1,fs_,Dm x=some k,ft_,Hm P w K G kvs es,fu_,Bool->Mh->Prop,fv_,some bU_,fw_,qa i,fx_,rs[k],fy_,[z!,M!,cC!,dl!,hw!,hx_,y],fz_,[z!,aM_,M!,y],fA_,some fg!,fB_,fo ρ=some x!,fC_,Keyed->Int,fD_,⟨_,i1,oE B⟩,fE_,n<=a0.size,fF_,(show i=j by omega),fG_,(Str.ofString "ours",.int 3),fH_,L'.length,fI_,GV _ (GV _ c_),fJ_,S.length<64,fK_,ms.map λo=>li!,fL_,Ba xs us,fM_,es.map kn!,fN_,a==b,fO_,us.zip us,fP_,.own a,fQ_,.ref x,fR_,.frz o u,fS_,Z.length,fT_,(by simp[z]),fU_,Int×Nat,fV_,"operations",fW_,[ai!,ar!,aI_],fX_,[ai!,aI_,"place","number"],fY_,[ai!,"ours"],fZ_,[ar_,fW!],f0_,[lL_,cW!],f1_,[bY!,bt!,"_law_deep"],f2_,X.wish E,f3_,fC (.str " "),f4_,Ia t,f5_,It->Hp->Prop,f6_,(by simpa using O),f7_,An 1 l6_,f8_,2 ^ 62,f9_,wl b1!]
def z'g:String:=z [ga!,(∀b∈fp,H' b=none),gb!,[X!,none,none,none],gc!,f2 Ai a1_ C_,gd!,cC cO eO rfl T.Q5 eA b2!,ge!,Ab b2_ (Ab gd_ (Ab (wl a1_) Af)),gf!,i != 0,gg!,Hr Af,gh!,i.natAbs.log2,gi!,.int n,gj!,wl sF!,gk!,jE T,gl!,iJ (n:=9) rfl,gm!,.str "",gn!,getMethod ov m pl,go!,PA X es t,gp!,aC iN!,gq!,aF by_ (aF by_ iP_),gr!,I.hok.fresh y_,gs!,envOfC qual scope s.heap.objs.size f cd,gt!,(by simpa using hi),gu!,f1 Bm ga_,gv!,Tv xs lo hi,gw!,.str al!,gx!,Xy x,gy!,.inr rfl,gz!,bE T.T8 T.V2 k_,gA!,aG jF,gB!,K.f _ _,gC!,W.keepIn K ae_=true,gD!,i∈W.its,gE!,bq.sub x c h,gF!,Ri t M o rl W hb a1 a2 a3 a4 a5 a6 k1 k2 k3 k4 k5 k6,gG!,.ListComp du vi_ scope pos,gH!,(λr M'=>match r with|.rt d=>R d M'|.nx _=>R .non M'),gI!,∀cl C al a9 fp,PG b9_ tg g,gJ!,Ar K H d v,gK!,w.nm i hi,gL!,ρ.length,gM!,[e8_,e8!,.int (z+(k:Nat))],gN!,(by simp[e]),gO!,(by rw[q5];simp),gP!,λ_ _ _ h=>h,gQ!,r1.mono s2.g,gR!,.tup S_,gS!,s.cps.toList.length,gT!,some a8_,gU!,(d+1,c),gV!,DA X own aK! fs,gW!,sub.free hp,gX!,Fh W x rows',gY!,.obj C fs,gZ!,er.grow x,g0!,HC.mp B,g1!,(backTo ab ti_).any b!=false,g2!,.tup [ok_,a,b,c],g3!,Qw F0 G1,g4!,Am X.K H ds vs,g5!,Ar X.K H d' v',g6!,(if _<=big then _ else none)=_,g7!,fs ρ=some ds,g8!,ys.map g7_,g9!,s.heap.IsTuple l2 ys]
def z'gg:String:=z [ga_,Ac O_ Ag,gb_,λρ M R=>R true M,gc_,An 2 Fg,gd_,wl dL!,ge_,.str "write",gf_,List (κ×V),gg_,As t.B3 "outline" i!,gh_,toString i,gi_,aC a2!,gj_,GF ?_,gk_,aD sP! aK,gl_,bM aC_ bZ cw! aP v!,gm_,ag.atName,gn_,Ak k A,go_,Ac a0_ (Ac dG! Ag),gp_,aC eR!,gq_,Ak P_ X.A,gr_,λ_ _ _ _ _=>a6j,gs_,Mi N vs,gt_,.int a t,gu_,w2 bv! b2_ bh!,gv_,f2 Ai s_ U_,gw_,.str al!,gx_,[.ref p],gy_,Gm l d,gz_,absurd z.symm q2,gA_,.bool true,gB_,Sk aj.heap H,gC_,Oz rows i p s rows',gD_,NameKind.free,gE_,NL++NF,gF_,x∈W.its,gG_,G2.objs.size,gH_,∀y∈b8!,y.2=.free->vo!,gI_,ff _ I2.lt,gJ_,v != 0,gK_,.tup jw!,gL_,hb<3900,gM_,U++v,gN_,(by rw[q4];simp),gO_,Ce.refl er.sub,gP_,fb ρ,gQ_,s2.trans s3,gR_,ft ρ,gS_,DT X own a ft,gT_,.dct nU_ e2,gU_,mup_ne h6,gV_,k _ G H aO_ Ar.str,gW_,.type "NoneType",gX_,if x=x then _ else _,gY_,Ce.laid x.sub hp,gZ_,Am K G ds vs,g0_,.int k,g1_,(aB!:Int),g2_,.tup [.str "drop",a],g3_,ds.map some++List.replicate (iT! - f_) none,g4_,Am X.K H es ws,g5_,Bp v' u',g6_,.Name y py,g7_,(·.length),g8_,s.heap.IsTuple l1 xs,g9_,.ref z]
def z'h:String:=z [ha!,JZ ?_,hb!,⟨hp,g,d,tk,os⟩,hc!,s.cps.toList.zipIdx.map kb_,hd!,q2 ρ M R,he!,λK hK=>hK,hf!,k=="undo",hg!,(show v=.none from hy),hh!,∀o∈ops,DG o.d,hi!,.lst cJ_,hj!,wl fb,hk!,some o.nm,hl!,λq hq=>?_,hm!,(by rw[mup_same];simp),hn!,Bl de! hm_ fs!,ho!,So P w K own G H Z ρ M,hp!,(o::os),hq!,(x::os),hr!,hp.map _,hs!,.int (k:Nat),ht!,cP h5,hu!,some (.lst yO!),hv!,k3 (.lst kE!) kE_ ek_,hw!,some (.lst em!),hx!,MA X own aK! fs,hy!,Ek M1 d,hz!,Aa 0 ρ=some ck!,hA!,W.its.length,hB!,.lst cv,hC!,some (Bd q),hD!,Gc own Z H1,hE!,W.its.map λi=>(i,D.fn fw_),hF!,a0.toList,hG!,x - 1,hH!,Int×Int,hI!,some (.int h),hJ!,ku.zip us,hK!,seqObj "list" us'.toArray n',hL!,(hJ!).zip ds,hM!,Cm t M a ta wa out [] [] ca,hN!,(by simpa using B),hO!,[u_,I!,ao_,hk!,some ej_],hP!,bL (d:=az!) rfl,hQ!,∀b u,h.get? b=some u->h'.get? b=some u,hR!,.own x,hS!,.ListComp du vi_ scope ab,hT!,Sk h H,hU!,HI ho,hV!,(∀x c,X.env.cells.lookup x=some c->c≠b),hW!,va b o e L,hX!,λz=>hc fT_,hY!,λ_ _ _ _ n=>n,hZ!,λ_ _ _ e=>e,h0!,HJ _ z,h1!,v.natAbs,h2!,(Str.ofString "]"),h3!,[some h2_,some ed_],h4!,"depth",h5!,"_law_found",h6!,"_law_base",h7!,"_law_at",h8!,∀dm,isTrue e X.env dm=(do let v <-dm;standAt e.pos;holding [v] lP!),h9!,init++(bj!).reverse.map λc=>gU!]
def z'hh:String:=z [ha_,bH uj,hb_,AA s.heap l1 l2,hc_,λc o e=>?_,hd_,λK hK=>?_,he_,.int o.h,hf_,(aX!).map Op.v,hg_,(show u=.none from L),hh_,Nh .str aX! [],hi_,ks.Nodup,hj_,Mb ks k,hk_,.inl e5!,hl_,Oo s.heap a es ep,hm_,.fn a2,hn_,"texts",ho_,f ρ M R,hp_,Wy X.prog X.w X.K r gm,hq_,MT X own a ft,hr_,.dct kvs ep,hs_,qT I sub r hk,ht_,IV _,hu_,k3 a b c,hv_,.tup af!,hw_,Mh->List D->Option D,hx_,some (.int (a:Nat)),hy_,kget kvs y,hz_,Ay M p (.dct (Aq kvs y v) (Ge kvs y ep)),hA_,.int aY!,hB_,some (.lst eo!),hC_,[hC!,some hB!],hD_,[z!,K_,some eb!,bm!,none,none,none,none,none,none],hE_,mup_ne a1,hF_,m - 1,hG_,some (.int N),hH_,ca h,hI_,[u_,Y_],hJ_,l.map f,hK_,.done (.ret .none),hL_,((hL!).map z_).map er_,hM_,[az!,.lst dy_],hN_,List (List Key×V),hO_,o.ExactDict,hP_,seqObj "list" (fM_).toArray 0,hQ_,Jb Pd ms,hR_,[K_,es!],hS_,H a=none,hT_,I.ok.bs b o e,hU_,b∈X.ex\/dB_<=b,hV_,λb o e n O L=>?_,hW_,hb+1 - rk x,hX_,t.T d x,hY_,λ_ _ e=>e,hZ_,λm hm=>?_,h0_,⟨by simp only[NW];omega,?_⟩,h1_,h1!<10 ^ 60,h2_,.int (i:Nat),h3_,TP X J Z Q,h4_,"numbers",h5_,"_law_most",h6_,Na a x0 o fd p lL! (some c),h7_,PE X e t,h8_,.bl true,h9_,its.toList]
def z'i:String:=z [ia!,Co (fT (Dj "tuple" n!)),ib!,fC f3!,ic!,fC lV!,id!,St->Hp->Prop,ie!,T.T bb! c,if!,some x3,ig!,.Name x ic,ih!,⟨.int _,H,aZ_,H_,q⟩,ii!,pyNext bZ_,ik!,{s with heap:=h'},il!,wl ic!,im!,Hs t.B5 1 (Hj t) Af,in!,⟨rfl,I.turned (t':=s.toks) (λb o O e=>eb b o O e) f0 f1 f3 f4 f5⟩,io!,I1.kept (t':=s1.toks) λb o e=>GK _ e,ip!,.lst l9_,iq!,X.mg "range"=none,ir!,(ma_).flatMap (T.T 1),is!,Ac be_ Ag,it!,f2 b O,iu!,I7.unpinned,iv!,Ir true,iw!,f2 Ai l0_ C_,ix!,2 ^ 64,iy!,Ac F_ Ag,iz!,Ah eG_ (Ax (Gs (Di (Co sa_)) (wT (w2 iy_ (Oe u! aj!) (wl iw_)))) (By L_ aj! me_) Ch),iA!,.str "set",iB!,lastMarks [op,ez] [b,c]=false,iC!,qF rfl,iD!,if i<0 then -i else i,iE!,r'.length,iF!,fS E!,iG!,W.emptyDict,iH!,Ko f v fs,iI!,H a=some eN_,iJ!,I.tok _,iK!,aA 10,iL!,Bf ai_,iM!,.int 9,iN!,aL aH aJ aD! aB r_,iO!,[.non,.non],iP!,.Call tf! aK! [] pos,iQ!,Ac bv_ Ag,iR!,Aa 10,iS!,((p,w)::P.zip vs),iT!,N.length,iU!,mH x_,iV!,W.codeIn K ae qual=true,iW!,.ref t,iX!,aC iF_,iY!,⟨_,je,rfl⟩,iZ!,((sIx n 0 lo:Nat):Int),i0!,.ref sl,i1!,aC ak!,i2!,V->Option Int->Option Int->Hp->VK->Prop,i3!,An 5 (w2 Bt bh! b2_),i4!,(i_:Int),i5!,M_<=sizeLine,i6!,bE T.U0 T.U2 k_,i7!,compareOp .In,i8!,Ic.m bZ,i9!,[(.non,.non)]]
def z'ii:String:=z [ia_,.inl h,ib_,PS X st t,ic_,some e,id_,f1 Gv a0!,ie_,Ol (Ks t) 0 c0!,if_,some x4,ig_,At t_,ih_,f2 Ap s_ cd!,ii_,As t.B5 "preceding" i!,ij_,(by simpa using hu),ik_,wl ib!,il_,λb O=>(im_).1,im_,hf b O,in_,fT rN_,io_,lw W T 0 root,ip_,Ab L_ b0_,iq_,Gl X "range",ir_,(false,eval b X.env),is_,wl B!,it_,Ih os,iu_,Int->Int->V,iv_,AB r ta tb,iw_,fC b1_,ix_,f1 Dh a0!,iy_,λ_=>Bc,iz_,.str "move",iA_,Gq X (compareOp ez) r',iB_,.Compare a [op,ez] [b,c] pos,iC_,(by simp only[GQ];omega),iD_,Dq.cons (j:=1) Dq.nil,iE_,K.In s.heap,iF_,aL aH aJ a3_ aB r_,iG_,W.instObj C o_,iH_,(show False from r),iI_,Ao 1 (En t) bw_,iJ_,Jv 3 Ag,iK_,True.intro,iL_,A.under (.builtin "type.__call__" ⟨.ref C::us,kw⟩),iM_,aC gR,iN_,aF av! aO,iO_,aF au_ aO,iP_,aF by_ aO,iQ_,.Call tf! [] [] pos,iR_,Str->Option NameKind,iS_,HA.mp nd,iT_,"_law_row",iU_,Ac C_ (Ac C_ (Ac C_ Ag)),iV_,bootBuiltins x=some eT_,iW_,f2 Dl F_ t_,iX_,⟨_,ho,rfl⟩,iY_,(by simpa using hv),iZ_,wl (fC eU_),i0_,Builtin.Tuple.tupleExact _,i1_,GH ⟨_,rfl,GH h⟩,i2_,w2 Bt i! m2_,i3_,bE T.T9 T.U5 k_,i4_,V->List V->Hp->VK->Prop,i5_,lH (mK T) e! rfl,i6_,(show false=true from fx),i7_,.dT kvs,i8_,Ph kf kp xs,i9_,u++[a0]]
def z'j:String:=z [ja!,(b0::v),jb!,z▸w,jc!,.inr e5!,jd!,Gm kp n,je!,GF fin,jf!,l.most=some n,jg!,aG (bR Q!),jh!,⟨[u],[]⟩,ji!,λ_ _ _=>False,jj!,mup_ne jq,jk!,mup_ne t6,jl!,z▸GP (f:=b!) hq,jm!,λa b hm=>?_,jn!,GI _ hp,jo!,names.map λ(n,k)=>if nv_ then(n,NameKind.cell)else(n,k),jp!,[(Str.ofString "following",D.fn f),(Str.ofString "preceding",D.fn p)],jq!,⟨B6,B7,B8,B9,C0,C1,C2,C3,C4,C5,C6,C7⟩,jr!,(N!,Tq us n),js!,(λv z=>by cases z),jt!,ff _ (rg p hp),ju!,hA.lt x L,jv!,if x=i then cutT [s] bk! else W.txt x,jw!,[e8_,e8!,eE!],jx!,upd H p dh_,jy!,λ_ h=>.inl h,jz!,Ce G H G' H',jA!,(by rw[hl];exact HJ _ q0),jB!,mup_ne z,jC!,[aV_,aN!,.int (k0:Nat)],jD!,f2 g fa fb,jE!,⟨x,rfl,?_⟩,jF!,DA X own es fs,jG!,s3 c hc,jH!,f1 g fs,jI!,bS sub qa,jJ!,Int->Int->D,jK!,z▸L,jL!,z▸db,jM!,wl f1,jN!,Ce.refl s2,jO!,bnd d ρ,jP!,λv H2 hy=>?_,jQ!,λj hj=>?_,jR!,starEach (e::[]) X.env=eQ!::starEach [] X.env,jS!,cP y_,jT!,.str "put",jU!,.str "set",jV!,ops.length,jW!,[.str "bin",.tup [.int 9,.int 9]],jX!,Fz X.K H a vs,jY!,Eo oo_ op!,jZ!,(ag_:Int),j0!,ao.length,j1!,pS rd re rv ao (h us us' rv ao),j2!,lU ds es hl,j3!,λ_=>some true,j4!,.ref ad,j5!,some iz,j6!,(by size_fits),j7!,ZipApart z TI TO i1 i2 l1 l2,j8!,IsPair s.heap TI (.ref i1) (.ref i2),j9!,s.heap.IsTupleIter i1 l1 k1]
def z'jj:String:=z [ja_,z▸ha,jb_,.inr (.inr e5!),jc_,Gm kf n,jd_,z▸this,je_,backTo ab uS!,jf_,ns.map .int,jg_,List.Pairwise.nil,jh_,λv _=>v=.bl true,ji_,mup_ne t3,jj_,mup_ne oj,jk_,(D.non::u),jl_,λx=>?_,jm_,ForInStep.yield r,jn_,λx L y hy=>?_,jo_,flt b O,jp_,.inl z,jq_,(by kernel_rfl),jr_,(by show 3<=1000;decide),js_,W.num i,jt_,∀a vs,Fz K H a vs->Fz K H' a vs,ju_,⟨_,mup_same⟩,jv_,.str i,jw_,[e8_,e8!,.int z],jx_,.tup [e8_,e8!],jy_,λb u e=>?_,jz_,∀j∈ix,j∉own,jA_,(by rw[hl];exact GV _ q0),jB_,nQ hN hv hd bv,jC_,(∀v G' H',Ce G H G' H'->Ar K G' d v->Q v H'),jD_,ag_<=16,jE_,⟨G1,ρ,d,di_,e,vT!⟩,jF_,(by rw[z]),jG_,mup_ne h5,jH_,Ez X.K fd ps [],jI_,Ce.laid sub hp,jJ_,Ad->Option n7!,jK_,sub.seq q,jL_,List Bool,jM_,bs.map Value.bool,jN_,starEach (a::[]) X.env=dK_::starEach [] X.env,jO_,wo W.rows i,jP_,cs.map λ_=>.bl true,jQ_,xs.map D.str,jR_,eval bn! X.env,jS_,[.Subscript bn! ix p2],jT_,.str "write",jU_,∀o∈ops,Us o,jV_,jV!<=100,jW_,Xk K ps.length g,jX_,(by simpa using h),jY_,us.toArray.size,jZ_,∀(us us':h_),Ba vs us->Ba ws us'->∀(j:Nat) u u',us[j]?=some u->us'[j]?=some u'->SeqAt.EqAt A.in1 s u u' jY!,j0_,λj=>Eo oo_ op!,j1_,lX ds es hl,j2_,cs.map Oj,j3_,bS sub q,j4_,.int base,j5_,Str.ofString "__next__",j6_,b5l (pX rfl (JW _)),j7_,IsZip s.heap z TI TO .none,j8_,IsPair s.heap TO p q,j9_,s.heap.IsTupleIter i2 l2 k2]
def z'k:String:=z [ka!,(∀c ob,c≠z->c≠TO->c≠i1->c≠i2->s.heap.get? c=some ob->h'.get? c=some ob),kb!,h5.objs.size,kc!,.tup [jU!,a,.int p,.int v],kd!,.tup cg_,ke!,k==k',kf!,f3 ρ=some c,kg!,Kl xs ys,kh!,oC l c k,ki!,.lst ((dp_).map kh_),kj!,.int o.tm,kk!,rows.map b!,kl!,ks.length,km!,plc es dr_,kn!,(·.key),ko!,GY.mp hq,kp!,Ob P w s.heap es.toArray ks,kq!,[(root,.fn r1),(Bo,.fn r2)],kr!,.fn a3,ks!,Fn st,kt!,XM M G H M' G' H',ku!,os.map Op.nm,kv!,w2 gm fa fb,kw!,hp x GO,kx!,(by rw[hp.length_eq];omega),ky!,Cu X.K G x v,kz!,[K_,pg_,Y_,some ph!],kA!,a3y (A:=A.in1) hu I m sub e r hk λo s' I' ho=>?_,kB!,upd H a (dE a au ba_),kC!,λw hw=>pG I r1 rx n1 r2 r n2 (by have:=mQ X.A;omega) w mT!,kD!,its.map λi=>(i,g i),kE!,W.rows.map Bj,kF!,(bk!).map Bd,kG!,Et.of B,kH!,.int (ap!:Nat),kI!,.ext x2,kJ!,.int kI_,kK!,q.2.length,kL!,⟨t1,t2,?_⟩,kM!,(by simpa using ux),kN!,GL (GN h.1),kO!,wl fx,kP!,s.root O,kQ!,l.map Bd,kR!,[.Subscript o i p2],kS!,p1 rfl,kT!,f ρ=some a,kU!,.lst (nw.map Bd),kV!,.obj C [],kW!,Cn N ps.length q,kX!,q.2.1.map b!,kY!,.str a9!,kZ!,Kl pT! pT_,k0!,mirror_perm _ _ _ _,k1!,(0,a0.size,0),k2!,.lst aI!,k3!,[X!,an_,hG_,fv_,pZ!,pZ!,none,none,none,none],k4!,Value.int a t,k5!,⟨rfl,hg _ hK⟩,k6!,Tx ft ρ M false,k7!,List (Keyed×D),k8!,[fG_,Az!,(Str.ofString "waiting",.fn wa)],k9!,gM cn! hA.ob hF2]
def z'kk:String:=z [ka_,GF (QR ?_),kb_,sgn h m,kc_,(oD!).set p.toNat ed_,kd_,λx L q hq=>?_,ke_,λc hc=>?_,kf_,hA.noOb oM6,kg_,[A!,aM_],kh_,(·.2.1),ki_,JI.mpr r_,kj_,[he_,.int o.n,kj!,o.d],kk_,(∀o∈os,DG o.d),kl_,Ob P w h es ks,km_,(∀b,M b≠none->M' b=M b),kn_,mup_ne c2,ko_,[(root,.non),(Bo,.non)],kp_,mup_ne (GN jx),kq_,(by simpa using hl),kr_,Bg G G',ks_,dE a es ep,kt_,(by rw[e];simp),ku_,MA X own es fs,kv_,st.grow x1 m1,kw_,⟨G1,ρ,M1,R,kv_,r1,yE!⟩,kx_,some hs!,ky_,upd H a (dE a au (Ge kvs d ep)),kz_,dictGet a u>>=_,kA_,(u++o::v),kB_,!Eo d d',kC_,(show its.toArray.any fw!=its.any fw! by simp),kD_,qH I r2 r n2,kE_,.fn wt,kF_,[z!,aM_],kG_,some aY!,kH_,Bj rs[k],kI_,((k+1:Nat):Int),kJ_,(p,kvs,ep),kK_,ho.run I st e λd M1 v G1 H1 u s1 r1 x1 m1 q1 I1 rx=>?_,kL_,.lst ((zf!).map Bj),kM_,GU (by simp[big];omega),kN_,(by rw[GW,IM];omega),kO_,Gc own Z H,kP_,Aa 2 ρ,kQ_,.lst kQ!,kR_,some eb_,kS_,⟨#[s.cps.toList.getD k 0]⟩,kT_,g ρ=some b,kU_,De C m M d,kV_,.lst [],kW_,GH (GF (QM ho hd ?_)),kX_,.int (q.2:Nat),kY_,.Constant (.str s0) n0 p0,kZ_,hs os h,k0_,HW i os c0 c1 c2 t0 t1 t2,k1_,setPending h1 ((Aq!).push k1!),k2_,some k2!,k3_,GI _ hz,k4_,Pu f1 ρ M a,k5_,λz hz=>?_,k6_,α->β,k7_,[fG_,Az!],k8_,hs S h,k9_,bL (d:=aV_) rfl]
def z'l:String:=z [la!,[az!,o.v],lb!,(by rw[GQ,IN];omega),lc!,(a,seqObj "list" #[] e1),ld!,GY.mp O,le!,if h=o.h then q else ca h,lf!,hk q a8,lg!,.int k,lh!,(s.heap.push co!).update s.heap.objs.size (Obj.mapSeq (·++cC_)),li!,(o.nm,o.v),lj!,[u_,G!,I!,Y_,hk!,Y_],lk!,(Sum.inr a:Key),ll!,.lst dy_,lm!,⟨_,rfl,r⟩,ln!,ds.all λd=>(Mc d).isSome,lo!,Jb Nf ds,lp!,List Key×Addr×Value,lq!,fs.map b!,lr!,uJ F S λae A outer s H E hr=>O hr,ls!,Ay M q E_,lt!,∃u,h'.get? e=some u,lu!,[u_,es!],lv!,upd H x o,lw!,kl.flatMap (hs S),lx!,(Ih S).map Op.v,ly!,Nz X.prog X.w H' h',lz!,λx c e=>?_,lA!,I.base.free b o e n L,lB!,sI (i:Nat),lC!,Str.ofString " [",lD!,Rg (nmL W x),lE!,hs.2 b (IA (HH cS! (I.ok.cab x c xf hc))),lF!,[ai!,aI_,"first","many"],lG!,Inv X J Z H' s',lH!,"message",lI!,eval a X.env,lJ!,⟨v,H,I,r,h⟩,lK!,[bX!,h4!,aI_],lL!,some (Ma bD!),lM!,"_law_other",lN!,[bH_,h6!,"_law_many"],lO!,[bY!,bt!,lM!],lP!,truthy v,lQ!,.BoolOp .And [a] pos,lR!,[bY!,bt!,"_law_deep",h5!,"_law_child",lR_,"_law_numbers",bc!],lS!,.BoolOp op [a] pos,lT!,cZ bX_ λv s1 ⟨x,H1,I1,r1,q1⟩=>?_,lU!,∀x,chl r1 x=chl r2 x,lV!,.str "bin",lW!,.Return ic_ pos,lX!,Hp->Prop,lY!,PE X o to,lZ!,T.eq bb! c,l0!,PG X tg g,l1!,(by simp only[JU];unfold big;omega),l2!,T.T d x,l3!,.fn (qa c),l4!,λb o O e=>(sb.2 b O).trans e,l5!,.lst rM_,l6!,As t.B4 "parents" i!,l7!,hi - lo,l8!,Ab u! l7_,l9!,Ab aK_ Af]
def z'll:String:=z [la_,hs S o.h,lb_,PySem.Fin->Shared->Prop,lc_,(by rw[hA.ob];simp),ld_,ku.toArray.zip cC_,le_,hk p hp,lf_,[u_,Y_,none],lg_,.builtin "sorted",lh_,seqObj "list" us.toArray 0,li_,[u_,G!,I!,Y_,hk!,y5],lj_,(Sum.inl a:Key),lk_,.str x t,ll_,(nomatch e),lm_,acc.toList,ln_,ds.map Nf,lo_,κ×Value,lp_,W.instObj C dx,lq_,h.ch y.h,lr_,λ_ q=>q,ls_,e=x\/H e=some hR!,lt_,[.lst jf_],lu_,(pO_:Nat),lv_,aV (hm b _ q λz=>z),lw_,X.env.scope.kind,lx_,.obj t.B3 (hF ta wa aw_),ly_,I.freeC x c e,lz_,I.base.keep b o e n O L,lA_,λb O=>?_,lB_,hs.2 b (IA qH_),lC_,Str.ofString "=",lD_,[ai!,ar!,fW!],lE_,[ai!,qY!,aI_,"behind","text"],lF_,(lD!).map D.str,lG_,starEach es X.env,lH_,[ar_,"fresh"],lI_,[ar_,ar!],lJ_,[ar_,aI_],lK_,"_law_letters",lL_,"_law_rows_here",lM_,[bH_,h6!,cq_,h5_],lN_,h J s Z H _ I hw,lO_,"_law_name",lP_,Na a x0 o fd p y5 y6,lQ_,.BoolOp .Or [a] pos,lR_,"_law_line",lS_,.int 60,lT_,.IfExp c a b pos,lU_,⟨hx,H',I.unwish,q⟩,lV_,(st::rest),lW_,Dj "str" n!,lX_,assignEach es X.env,lY_,setItem ov iv v,lZ_,f1 Bm c0!,l0_,f2 Ai n! at!,l1_,Int->Int->Int,l2_,Qy W 1500,l3_,W.num c,l4_,(λys hy=>by rw[I.list_inj hy hq];exact L),l5_,λb o O e=>kk b o f6_ e,l6_,w2 Bt l6! u!,l7_,Ab ai_ Af,l8_,s.heap.push {cls:=.type "range",data:=.fields #[.int lo t,.int hi u,.int 1 v]},l9_,(io_).map D.str]
def z'm:String:=z [ma!,Bb t.B4 "has_item" 2 (Ct t) i! b0_,mb!,ha pos J s Z H _ I h,mc!,T.eq 0 root,md!,An 8 (wl (f2 Al s_ (Av is!))),me!,Pf (Nh .str it_ []) it_,mf!,V->Hp->VK->Prop,mg!,Gq X (binaryOp op) r,mh!,T.cast ev.ch,mi!,Int->Int->Bool,mj!,binaryOp .Mult,mk!,rI Zz λi j=>.int (i / j),ml!,i ^ j.toNat,mm!,gH (tT (xA zw_ (oG (bM zD zF gd! aB v!)))) eH! dR,mn!,gK T.R9 rfl,mo!,compareOp .LtE,mp!,decide (i<j),mq!,decide (j<i),mr!,decide (j<=i),ms!,ho J s2 Z H2 x y v u _ I2 r1 r2 q2,mt!,kvs.isEmpty,mu!,Ea t.B3 "outline" i! bZ!,mv!,wl (Dv Ag),mw!,aC (rY aK),mx!,Ab (Ao 1 (Ew t) bw_) Af,my!,f2 Ai s_ C_,mz!,λ_ _ _ _ _=>bD (i:=0) (show([bd!,bt!]:List Str).Nodup by decide+kernel) rfl a_,mA!,Ab i! l7_,mB!,W.plainGet_of hg,mC!,aL aH aJ a2! aB r_,mD!,aD aD! aK,mE!,show Ko f v ((k,x)::r)=(if k=f then(k,v)::r else(k,x)::Ko f v r)from rfl,mF!,Kt (Eu s_),mG!,aD bJ_ aK,mH!,Ca 2 [] (Sr (Bb t.B4 "numbers_of" 2 (Cz t) i! c1!)) eC_ (Di (fT s0_)) (wl (Tu " [" "=" "]" n! s_)),mI!,λ_ _ _ _ _=>k_,mJ!,.List es pos,mK!,f2 Al t_ (f2 Bz n! s_),mL!,aF Q! cw_,mM!,upd tb_ x mL_,mN!,jX I hg hm ?_ be,mO!,Mk X.K C f,mP!,fC (.int 5),mQ!,Om CX P w K mg base N qual scope f ae A outer s H E,mR!,bootBuiltins x=some eT!,mS!,.int c u,mT!,(by simpa using hw),mU!,v+(n:Int),mV!,Cp (Ao 1 Fu bw_),mW!,Cp (w2 Bt i! iZ_),mX!,(items.toList.drop (sIx items.size 0 lo)).take tP_,mY!,Option Expr,mZ!,.Slice lo hi none p2,m0!,An 2 (wl mZ_),m1!,HT.sIx xs.length 0 lo,m2!,.str "numbers",m3!,By bh! ai_ mv!,m4!,λb ob q=>GK _ q,m5!,Bk (Ao 4 Iy (Ab i! ge!)),m6!,Kt (Fi t4_),m7!,bW (dU T) e! k_ cw_,m8!,Ac (f2 Al ud! n!) Ag,m9!,w2 Bt (wl be_) (wl bv_)]
def z'mm:String:=z [ma_,chl W.rows root,mb_,cZ mb! λus s1 ⟨vs,H1,I1,r1,q1⟩=>?_,mc_,.lst dD!,md_,PI X tg iter wi,me_,wl (fC D_),mf_,Int->Int->Prop,mg_,.BinOp a op b pos,mh_,f dx_ (.int j u),mi_,.str "redo",mj_,rI Xb λi j=>.int (i*j),mk_,rI (λ_ j=>0<j) λi j=>.int (i%j),ml_,rI Zy λi j=>.int ml!,mm_,aD a2! aK,mn_,Sa λi j=>.bl mp!,mo_,decide (i<=j),mp_,.str "drop",mq_,Sa λi j=>.bl mq!,mr_,Sa λi j=>.bl mr!,ms_,f2 Ai F_ at!,mt_,its.toArray.isEmpty,mu_,⟨H,I,q⟩,mv_,w2 Bt dN! L_,mw_,Bf (wl (f1 Dh c0!)),mx_,f2 Ai s_ t_,my_,⟨.str _,H,aZ_,H_,q⟩,mz_,λ_ _ _ _ _=>gi_,mA_,Ut s.heap x dx C mA,mB_,W.isFn K ae_=true,mC_,{s with toks:=s.toks+1},mD_,Ey 1 [] (Eu s_) R_ aJ_ sI_,mE_,Option Value,mF_,Str.empty,mG_,An 4 (Hr (Ab (wl (Av (Ac C_ c0!))) Af)),mH_,PE X o ta,mI_,f2 Bc iw! (fC eI!),mJ_,aG (bR iM_),mK_,Qz P w K mg base A outer s H,mL_,.ins C dx [],mM_,Ac (f1 Ck (Ac n! (Ac s5_ Ag))) Ag,mN_,backTo pos ti_,mO_,a6f (nW b5_ (jR (eG b4_ eS by_ a3! rfl))),mP_,bV (sc:=Ae Qe) rfl n_,mQ_,Iq X eT! r,mR_,Iq X eT_ r,mS_,ws.length,mT_,An 3 (wl iW_),mU_,mup_ne h4,mV_,aF w_ iN_,mW_,(i:Int)+(m:Int)*1,mX_,wl (fC as_),mY_,aD aB aK,mZ_,f2 Ai s_ at!,m0_,An 3 (wl (Av t0!)),m1_,HT.sIx xs.length xs.length hi - HT.sIx xs.length 0 lo,m2_,wl (fC m2!),m3_,By i2_ ai_ (Hr (Ab aK_ (Ab aK_ (Ab aK_ l9!)))),m4_,Bk (Ao 4 Gi t2!),m5_,Bk (Ao 4 Iy (Ab i! sf_)),m6_,bE T.T9 T.U3 k_,m7_,.Subscript a b pos,m8_,sliceBounds lo hi none n,m9_,wT (w2 BE m9! aK_)]
def z'n:String:=z [na!,Jz ai_ is_,nb!,Ac C_ (Ac (f2 Bz (f1 Ck uw!) (fC (.int 13))) Ag),nc!,Dq.cons (j:=0) Dq.nil,nd!,ag.endLine==ab.line,ne!,acc++its,nf!,(by rw[GQ];omega),ng!,2 ^ 63 - 1,nh!,ks.map kV,ni!,h.p _ _,nj!,(aL aH aJ by! aB r_),nk!,World->Heap->Prop,nl!,⟨bf_,[]⟩,nm!,λr s'=>r=.ok (.ret gA_)/\OldK aj.heap s'.heap/\s'.os=aj.os/\AllBare s'.gens,nn!,∀x∈xs,∃k,Dm x=some k,no!,K.p _ _,np!,Ak k callerA,nq!,(aE_).map b!,nr!,jT.mp hq,ns!,λm hm=>hm,nt!,λ_ _ _ q=>q,nu!,if x=n then[]else W.txt x,nv!,(nu_).resolve_right q,nw!,if x=a then l else W.txt x,nx!,∀b∈fp,Iw X J H2 b,ny!,setT W a l,nz!,Oy NL.length ix Z,nA!,(by rw[e1];exact O),nB!,.inr (.inr ⟨af!,rfl⟩),nC!,mup_ne h3,nD!,(by show 1<=1000;decide),nE!,hA.noOb oM2,nF!,List (L2.Key×V),nG!,(q.1,q.2.1,q.2.2&&!decide (q.1∈cv)),nH!,λq hq y hy q' a8 e=>?_,nI!,.dct nH_ e6,nJ!,ds.drop n,nK!,g++[.tup jw!],nL!,λi d q _=>?_,nM!,.dct (Aq k5 s c) e5,nN!,(by rw[wc];simp),nO!,hw Z G H Q ρ d er e k,nP!,cs.zipIdx k0,nQ!,[A!,bm!,M!,d4_,some tx,some cx,nP_,some gw!,some cc_],nR!,(.tup jC!,.str al!,true),nS!,⟨G,ρ,x,er,e1,λG1 H1 s1=>?_⟩,nT!,fT fa ρ,nU!,⟨G,ρ,.bl x,er,kE e1,vS_⟩,nV!,Aq k3 n (.fn r2),nW!,"_law_gone",nX!,mup_ne c3,nY!,K3 c (nY_).1 (nY_).2.1 (nY_).2.2,nZ!,we c hc,n0!,gg c hc,n1!,Na a x0 o fd p lL! y6,n2!,w1 _ v1,n3!,w1 _ v3,n4!,bS sub qb,n5!,(by rw[z,g4]),n6!,λ_ j=>decide (0<j),n7!,Option Int,n8!,(by rw[dM xn];exact u1),n9!,⟨o,B,Y⟩]
def z'nn:String:=z [na_,upd H l a6!,nb_,fT (Dj "list" F_),nc_,fT (f1 Md uA_),nd_,λx1 x2=>x1++x2,ne_,n<=sizeLine,nf_,.cons ru .nil,ng_,a3p 0 1,nh_,h.f _ _,ni_,aC (dS aD! dY c3_),nj_,(Str->Option Value)->Heap->Prop,nk_,d.params.defaults=[],nl_,.call e1_ nl!,nm_,λf vs=>PySem.call f vs,nn_,.bool true,no_,⟨t,rfl⟩,np_,W.its.Nodup,nq_,W.fnOf x qual ks! bL_ bz_ .none kV bo pm an ae ct,nr_,aV (ne b _ e),ns_,aV (by simpa using hc),nt_,n∉W.its,nu_,(cB!).mp L,nv_,k==gD_&&env.scope.kind==.function&&env.kindOf n==some .cell,nw_,Inv X J Z H2 s2,nx_,Yg X scope cl,ny_,Str.ofString "written",nz_,k1.length,nA_,.bool b,nB_,mup_ne p1,nC_,[A!,aM_,M!],nD_,Dm x=some kx,nE_,(js_).set p.toNat gi!,nF_,⟨r,f,p',g1,g2.keep (ar _ df_) (ar _ d0!) (ar _ d0_),g3,g4,g5⟩,nG_,setT W i (cutT g bk!),nH_,Aq k6 s D_,nI_,setT W i qq_,nJ_,V.ref p,nK_,some cD_,nL_,[cW!,h5_],nM_,setT W i vC_,nN_,Ya nl ix ρ,nO_,if b∈Jk own Z then none else G' b,nP_,some vI_,nQ_,[A!,bm!,M!,d4_,some tx,some cx,nP_,some gw!,qg],nR_,k G' H' s',nS_,hO.mono a!,nT_,Aq k1 n pl,nU_,Aq k2 n (.fn r1),nV_,.dct nV! e3,nW_,[bY!,bd!],nX_,s2 c hc,nY_,iy c hc,nZ_,a1j h.ok,n0_,gg c jG!,n1_,(by rw[GQ,GQ];omega),n2_,w1 _ v2,n3_,.lst fN!,n4_,(by rw[z,hA.r1]),n5_,(by rw[z,g5]),n6_,w1 a2 h3,n7_,vI rr l h,n8_,.builtin "isinstance",n9_,na d hd]
def z'o:String:=z [oa!,GL (λz:x=n=>hn jK!),ob!,⟨ho,rfl,k⟩,oc!,Ay M a1 ob_,od!,List.range n,oe!,[A!,M!,aM_,dl!],of!,.dct (Aq k1 i x) (Ge k1 i e1),og!,er.grow x1,oh!,B.ok G0 F0,oi!,.tup [.str a,.str b],oj!,.inl ⟨rfl,vs,Et.of h3⟩,ok!,Eg ds.length j,ol!,.str "undo",om!,⟨m8 ii,?_⟩,on!,Om Pk P w K mg base N qual bz_ σ ae A outer s H E,oo!,cy.length,op!,es.getD j .non,oq!,us'.toArray,or!,letters.length,os!,⟨cs.toArray⟩,ot!,ad==sysModules,ou!,[X!,an_,ay!,bn_,bP_,cg!,cI!,j5!,fi_,some T!,none,none],ov!,Sum.inr z,ow!,some (Qr oth),ox!,⟨u,rfl⟩,oy!,dB rfl rfl,oz!,[a].length+(dT_).length+eX!<30,oA!,⟨_,dJ_,rfl⟩,oB!,⟨_,rfl,?_⟩,oC!,.type "zip",oD!,W.num a,oE!,(λv y=>by cases y),oF!,λc o _ _ hc e _=>⟨o.slots,kp c o hc e⟩,oG!,λc ps e=>qO!,oH!,I.hok c o e,oI!,λ_ e'=>e',oJ!,.str k',oK!,Db (D.str k::r) 0=_,oL!,GU (by simp only[GS];omega),oM!,.tup (.str k::a::b::c::r),oN!,[.str k,a],oO!,Om Pk P w K mg base N x bz_ σ ae A outer s H E,oP!,(dp_).map b!,oQ!,W.mg_of X G a,oR!,JP.mp hq,oS!,Vb rows,oT!,Str.ofString "undo"==Str.ofString "undo",oU!,ops.map Op.key,oV!,(Ai o.v aB_).bind λx=>Ai x G_,oW!,Jx P w s.heap x u,oX!,[G!,I!,y],oY!,[eg_,I!,none],oZ!,λx=>?_,o0!,kget wd o.nm,o1!,Nh .str aX! [],o2!,(∀b,M b≠none->M' b=M b/\rl b=.oth),o3!,.obj t.B4 fs!,o4!,[(root,D.fn r1),(Bo,D.fn r2)],o5!,Bl dY! kr! hn!,o6!,Aq kvs d x,o7!,List D->Mh->Prop,o8!,Pf wd os,o9!,(∃uq,Rh W' uq)]
def z'oo:String:=z [oa_,bs.all id,ob_,.dct nT_ (Ge k1 n e1),oc_,cE.mp z,od_,Ax _ _ _,oe_,ao.mono x2.g,of_,GD X.K g bnd,og_,x.sub.free hp,oh_,ρ.set i nK_,oi_,(a==k||b==k),oj_,h5.mono x.g,ok_,.str "move",ol_,.lst its,om_,A.deeper (envOfC qual bz_ s.heap.objs.size σ ae),on_,some (.lst cy),oo_,ds.getD j .non,op_,us'.toArray.size,oq_,Et X.K H a vs,or_,λacc p=>acc++(a9!).cps++p.cps,os_,.str letters,ot_,bn.lookup y,ou_,Sum.inr z,ov_,Addr->Option wW!,ow_,A'.handled,ox_,[X!,an_,ay!,bn_,bP_,cg!,cI!,j5!,fi_,some T!,some sg,none],oy_,backTo ab (starEach [a] X.env),oz_,[.tup [bm_,.int (1+m0%5)]],oA_,HG _ rfl,oB_,BW s.heap l1 l2,oC_,GK _ oA_,oD_,[aV_,aN!,.int (k:Nat)],oE_,λc o _ _ hc e _=>kp c o hc e,oF_,λc o hc e=>⟨o,kp c o hc e⟩,oG_,⟨a',b',c',e',HJ _ hm⟩,oH_,λd o' hd e'=>kp d o' (λhm=>?_) e',oI_,aV (ne c _ e),oJ_,aV (ne d _ q),oK_,.tup (.str k::a::r),oL_,.tup (.str k::a::b::r),oM_,some (.inl (.inr "bin")),oN_,A.deeper (envOfC x bz_ s.heap.objs.size σ ae),oO_,Uj n es,oP_,(oC l c k).binds b,oQ_,ns.map D.int,oR_,Td rows,oS_,(k=="undo"||k=="redo"),oT_,Str.ofString "redo"==Str.ofString "redo",oU_,.bl (Gk o.d).isSome,oV_,List L2.Key,oW_,λk=>.bl hf!,oX_,.dct acc ep,oY_,(bU!:Nat),oZ_,KM ho hd (GF (b9c hu q2 hk (GF (KM ho hd ?_)))),o0_,Option Nat,o1_,fa ρ=some x,o2_,[(root,D.non),(Bo,D.non)],o3_,GF (uD hu hk λtk=>GF yl_),o4_,ae!<=sizeLine,o5_,if c=o then _ else _,o6_,hH.trans B,o7_,hw Z G H Q ρ M R st e k,o8_,hb+20*aP_,o9_,st.mr.ext x]
def z'p:String:=z [pa!,.refl st.or.sub,pb!,λ_=>g,pc!,λy hy=>hp y dW_,pd!,Ay M p c,pe!,.int yK_,pf!,[K_,yK!,Y_,some pe!],pg!,(bi!).map Op.v,ph!,.int oY_,pi!,((bU!+(m+1):Nat):Int),pj!,GF (NJ hT ab_),pk!,(Str.ofString "undo"==k||Str.ofString "redo"==k),pl!,Et K H p ys\/Fz K H p ys,pm!,Ca 1 [1] _ _ _ _,pn!,rs.take k,po!,.dct q.2.1 q.2.2,pp!,kget q.2.1 y,pq!,(by rw[hA.rt];simp),pr!,aw wn y8!,ps!,[some el!,M!],pt!,.lst ((em!).take a),pu!,Value×Value,pv!,!decide (x=i),pw!,upd H s.heap.objs.size ze!,px!,Aa 2 ρ=some ee!,py!,.dct (Aq en_ a kQ_) e,pz!,sr.grow x m,pA!,.obj C (Bl x y fs),pB!,.bl q.2.2,pC!,((n:Nat):Int),pD!,Jg P w K own M0 G0 F0 M1 G1 H1 Z ρ,pE!,List.range ag_,pF!,some (.int (at_:Nat)),pG!,[z!,K_,fA_,bm!,y4,hB_,pF!,y,some kU!,none],pH!,.str gh_,pI!,rows.length,pJ!,(λi v=>∃e,es[i]?=some e/\v=e.key),pK!,a3l hL dv0 nI bm,pL!,starEach [a] X.env=dK_::starEach [] X.env,pM!,fa ρ=some y,pN!,Gk x.d=none,pO!,ax.mono a!,pP!,Ay N w E_,pQ!,HT.lexLt ms ns,pR!,GY.mp z,pS!,[none,none],pT!,cs.map λc=>.fn c.1,pU!,Addr×D->Prop,pV!,∀k h1,SB kd a0 h1->1<=k->k<=n->Up r A_ k->Q (some k) h1,pW!,(by rw[GW,hw.len];rfl),pX!,(by have:=hw.b1;omega),pY!,cO_ / 2,pZ!,some (.lst [bm_,bm_,bm_]),p0!,(by rw[HM];rfl),p1!,(p1_).map kf,p2!,kl.length,p3!,some (.inl ia_),p4!,Ak k X.A.in1.in1,p5!,λd q=>Mc d=some q,p6!,(by cases hh),p7!,M p=some J_,p8!,∀H':Hp,H' a=none->Iw X J H' a,p9!,(by rw[ht];simp)]
def z'pp:String:=z [pa_,some x.v,pb_,λy hy=>hd y dW_,pc_,MT X own c ft,pd_,((j:Nat):Int),pe_,⟨o,h⟩,pf_,⟨⟨o,q o z1,z2,z3⟩,z4⟩,pg_,some (.lst pg!),ph_,((bU!+m:Nat):Int),pi_,[K_,hu!,Y_,z],pj_,⟨B,Y⟩,pk_,D.str.inj z,pl_,compareOp .NotIn,pm_,α->Prop,pn_,Al hs! aS!=_,po_,Ja M1 d,pp_,.dct (k3 (.lst (rows'.map Bj)) kE_ ek_) e,pq_,(by rw[Y];simp),pr_,(ci!).trans x3 m2,ps_,((ap!:Nat):Int),pt_,.lst [Bj bA!],pu_,W.rows.filter λq=>decide fz!,pv_,.lst [p],pw_,.inr (s.noF z),px_,B.ok M0 G0 F0,py_,(by rw[hA.rw_];simp),pz_,.fn (qa a),pA_,fb ρ=some y,pB_,Kn M3 d y v,pC_,[z!,K_,kR_,fA!,o4,o5,o6,o7,o8,o9],pD_,MI X own tg iter fi,pE_,[z!,K_,fA_,bm!,y4,none,none,none,none,none],pF_,Xc P w K ps.length g,pG_,.lst ((eo!).take at_),pH_,Oo s.heap d es ep,pI_,Ra W n d W',pJ_,⟨rfl,k⟩,pK_,(by simpa using kg),pL_,(mN_).any b!=false,pM_,[G!,z!,I!,some x.v],pN_,.bool (lexLt ms ns),pO_,ms.length,pP_,Ay pP! wt E_,pQ_,⟨0,?_⟩,pR_,(aE_).length<5000,pS_,List (Addr×D),pT_,cs.map z_,pU_,Option Nat->SortSt->Prop,pV_,λx h=>(by cases h),pW_,(by have:=hw.b0;omega),pX_,(by have:=hw.b2;omega),pY_,ρ[i]?=some nK_,pZ_,b5y em ed nd z rfl rfl rfl rfl rfl rfl rfl O,p0_,Str.ofString "outline",p1_,ay.map z_,p2_,.int ((k8_).length:Nat),p3_,J++[eq_],p4_,ku.length,p5_,cM (f:=fC .non) (d:=.non) rfl,p6_,λh hh=>p6!,p7_,some (.inl (.inl o.h)),p8_,(by rw[hA.wt];simp),p9_,seqObj "list" #[] e1]
def z'q:String:=z [qa!,(by show 4<100;decide),qb!,Paired cP! ds us,qc!,(by rw[JG];omega),qd!,GY.mp y,qe!,dn.map λo=>li!,qf!,(s1.heap.push co!).update s1.heap.objs.size (Obj.mapSeq (·++aQ!)),qg!,(by rw[(cK _).length_eq,IN];omega),qh!,mixKind prog w,qi!,(by simpa using hl),qj!,λq e=>Cu K G q.1 e.key,qk!,(λb O=>by rw[ld!];exact gb),ql!,qs.map Op.nm,qm!,seqEpoch_at md rfl ?_,qn!,.tup (p.1.map kV),qo!,Jc fQ! (Li h3 p.1.1)<Jc fQ! (Li h3 q.1.1),qp!,(show h.get? a=some _ from x),qq!,∀b xs,H b=some bF!->H' b=some bF!,qr!,W.methodObj ae_ (.ref y),qs!,⟨_,_,tY sub m rx,tY sub m ry,h.1.1,h.1.2,h.2,d9_⟩,qt!,W.fnOf "__init__" qual ks! bL_ bz_ .none kV bo pm an ae ct,qu!,∀b u,b≠e->h.get? b=some u->h'.get? b=some u,qv!,ys.map λ_=>true,qw!,λy=>y=D.bl true,qy!,[u_,es!,some G_,none],qz!,h.get? b=some o,qA!,X.env.kindOf x=some .cell\/X.env.kindOf x=some .free,qB!,I.ok.noex b o e,qC!,s4.trans (Ce.laid s4.sub hp),qD!,([]++kl.flatMap (hs S)).map Op.v,qE!,((n - 1 - i:Nat):Int),qF!,Cm t M a ta wa .non S kl ca,qG!,((i+1:Nat):Int),qH!,⟨G,ρ,M,_,st,e,zL_⟩,qI!,bL (d:=.non) rfl,qJ!,(M_:Int) - 1 - c2!,qK!,λb o e L=>?_,qL!,gM cn! hob hF4,qM!,(λ_ z=>nomatch z),qN!,xs.zipIdx.map λq=>.tup [kX_,q.1],qO!,⟨#[],by rw[e];simp⟩,qP!,s1++Str.ofString gh_++s2++Str.ofString (toString j)++s3,qQ!,e1.trans e2.symm,qR!,storeName X.env x u,qS!,⟨hV_,hV_,I.base.free,qK!,I.base.tups,I.base.frzs,I.base.tbls⟩,qT!,(by simpa using I.len),qU!,D.str (Txt.join a9! ys),qV!,[ai!,ar!,fW!,"ahead","follower"],qW!,Txt.join a9! lD!,qX!,p.length+q.length<=big,qY!,"operation_name",qZ!,[ai!,qY!,aI_,"behind","text","ahead","k","sign",ar!],q0!,some (.int ((k:Nat)+1)),q1!,[fV_,"words","names",cp_,ar!],q2!,[A!,q0!,aM_,some (.lst lF_)],q3!,α->Shared->Prop,q4!,GU ⟨r!,r!,ew_⟩,q5!,[ar_,"fresh","times",ar!,"time"],q6!,(by rw[JU];unfold big;omega),q7!,λv aj=>wpAny e_ X.A vc! (λu al=>wpAny e_ X.A (f v u) Q X.xe al) X.xe aj,q8!,[ar_,cp_,"known"],q9!,[ar_,aI_,bX!,"found","coming","page","child"]]
def z'qq:String:=z [qa_,λh hh=>?_,qb_,Jb er_ ds,qc_,Ik g q.2,qd_,(cn_).push co!,qe_,[u_,G!,I!,Y_,y4,y5],qf_,seqObj "list" its.toArray 0,qg_,(λq=>nomatch q),qh_,ItemsOf pJ! acc ae!,qi_,IS (by rw[IR,hi.1];omega),qj_,Paired.mapP ok.1 λ_ _ z=>z.1,qk_,λv d=>Hl h3 v (Nf d).1 (Nf d).2,ql_,L'.map (·.1.2),qm_,bL (d:=.fn q) rfl,qn_,(∀f,Ny (fs.lookup f) (mA f)),qo_,Fj P w H h a o,qp_,λx L=>hk x bP!,qq_,cutT [s] bk!,qr_,∀M',Cm t M' a ta wa out [] [] ca->R .non M',qs_,∀{σ:Addr} {ae:Value} {A:Around} {outer:aq_} {s:Shared} {H:Hp} {E:XK},Ak k om_->Uf (on!).nox [] h2 bL_ q,qt_,ms.map Op.nm,qu_,u7.mem_iff.mp ho,qv_,.tbl (ps++pe),qy_,List.range cQ!,qz_,(l.filter λx=>p x||q x),qA_,ks.map D.int,qB_,Dk (Ss dN!) bf! (AD t),qC_,[u_,fv_,none],qD_,(by rw[hp.length_eq];exact hS),qE_,Array GenState,qF_,Pf (Nh .str (Ih S) []) (Ih S),qG_,(qf!).push qf_,qH_,HH cS! I.ok.above,qI_,⟨v,_,M1,G1,rfl,r1,x1,m1,q1⟩,qJ_,revObj l qJ!,qK_,k _ _ M1 _ G1 H1 t1 x1 m1 ?_,qL_,λi x v e1 e2 e3=>?_,qM_,⟨_,au,bd,hL,r'⟩,qN_,GP (f:=z_) hq,qO_,λb u e=>?_,qP_,∀b u,s.heap.get? b=some u->h'.get? b=some u,qQ_,[k,a,.int p,.int v],qR_,.Pass ⟨0,0,0,0⟩,qS_,λj y v' e1 e2 e3=>?_,qT_,⟨u',r',?_⟩,qU_,z.sameBut hs (cne y c e),qV_,[ai!,ar!,"ahead","follower"],qW_,[ai!,"names",ar!],qX_,[ai!,aI_,"parent","sibling","place"],qY_,(by simp[nB,c]),qZ_,[ai!,aI_,"first","many","k",ar!],q0_,[fV_,"words",cp_],q1_,[fV_,bX!,"left_out",cp_,ar!],q2_,backTo pos lG_,q3_,[ar_,lH!,"fresh",cp_,ar!,"same"],q4_,ta Z H λx H1=>tb Z H1 λy H2=>R x y H2,q5_,∀v u s2 x y H2,Inv X J Z H2 s2->Bp x v->Bp y u->R x y H2->wpAny e_ X.A (f v u) Q X.xe s2,q6_,[ar_,"many","found"],q7_,[ar_,lH!,"many",cp_],q8_,[ar_,ar!,bX!],q9_,[bX!,h4!,aI_,h4_]]
def z'r:String:=z [ra!,.Constant bb_ j pos,rb!,.Constant .none j pos,rc!,(by rw[I.ok.glob];exact I.mod.glob.keeps I.bk),rd!,[bH_,h6!,cq_,h5_,cW!,"_law_items_here",bt!,lM!,"_law_kinds","_law_kind","_law_sign","_law_names"],re!,.int (d:Nat),rf!,[bH_,h6!,"_law_many",cq_,"_law_counts","_law_times",bc!,cW!,h7!,ey!],rg!,[cq_,h5!,bd!,h7!],rh!,[cq_,"_law_last",bd!],ri!,"_law_parent_here",rj!,[bY!,bd!,ey!,lO_,"_law_good",lL_,h7!,bc!,"_law_new",nW!],rk!,[cq_,bY!,"_law_undone_here",bd!],rl!,cZ bX_ λc s1 ⟨H1,I1,q1⟩=>?_,rm!,[bH_,cq_,"_law_hand",h5!],rn!,Na a x0 o (fd++en!) p lL! y6,ro!,cZ (hc J s Z H _ I h) λd s1 ⟨H1,I1,q1⟩=>?_,rp!,Ah (Fo pC (pB t)) iL!,rq!,⟨ok.mod,ok.kind,ok.glob,ok.blt,ok.above,ok.inj,ok.has,ok.cab,ok.hd,ok.frames,ok.stk,ok.exf,ok.bs,ok.bsz,ok.noex,ok.exfs,ok.funs,ok.frf⟩,rr!,f2 Br n! cd!,rs!,a3n e.ch wi.rnd vi.rnd g1 g2,rt!,(by rw[e.its,ei,ew];exact c2),ru!,⟨e.its,by simp only[setT,e.txt],e.num,e.ch⟩,rv!,St->Hp->Prop,rw!,(by rw[lZ];simp),rx!,[u_,I!,ao_,hk!,y4],ry!,.Subscript o i pos,rz!,ho J s Z H _ I h,rA!,(bj!).flatMap ez!,rB!,l.map λz=>.int (z.2:Nat),rC!,.While c body [] pos,rE!,(by rw[z];exact O),rF!,(∀b∈fp,Iw X J H b),rG!,letOwnedTupleGo tg bZ_ u,rH!,bL (d:=bp!) rfl,rI!,CP X J Z tg R,rJ!,fC (.int 12),rK!,Txt.mul ev_ (d:Nat)++Xh W c,rL!,[z!,G!,dI!,I!,some c,some (.str rK!),some l3!,y7],rM!,[z!,G!,dI!,I!,some c,some (.str (lnS W d c)),some l3!,me],rN!,lw W T bb! c,rO!,Bb t.B4 "has" 2 (Cw t) i! c1!,rP!,By l6! u! aj!,rQ!,By ct! u! im!,rR!,As t.B4 "numbers" i!,rS!,(((l7!).toNat:Nat):Int),rT!,(T.T 0 root).map Ma,rU!,.Call rS_ [a] [] pos,rV!,(λd=>match d with|.tup [.int k,x]=>.str (lnS W (k.toNat - 1) x)|_=>.non),rW!,starEach [b] X.env=[ir_],rX!,(kI_).toNat - 1,rY!,As t.B4 "written" i!,rZ!,.For tg iter body [] pos,r0!,λb O=>(it!).1,r1!,An 5 (wl (f2 Al (Ep w! Au cY_) (Av ga_))),r2!,T.obj _ _ mj,r3!,λo ho=>(r0_).dg,r4!,GV _ (GV _ (jU O e)),r5!,w2 Bt rR! u!,r6!,Value->Sem Value,r7!,Cp (Bb t.B4 "signs_of" 2 (Do t) i! b0_),r8!,⟨.int bw!,H,aZ_,H_,q⟩,r9!,wl (f2 Ai a1_ t_)]
def z'rr:String:=z [ra_,∀b,M b≠none->M' b=M b,rb_,[cq_,h5!,bd!,bc!],rc_,bootBuiltins x=some u,rd_,((d+1:Nat):Int),re_,D.int ((d:Nat)+1),rf_,op==CmpOp.In,rg_,op==CmpOp.NotIn,rh_,[bY!,bt!,ri!,vO!,lL_,h7!,bc!],ri_,[bY!,bt!,lM!,"_law_above"],rj_,cZ (ha J s Z H Q I h) λc s1 e=>?_,rk_,λq=>T.T q.1 q.2,rl_,((init.length+1:Nat):Int),rm_,⟨H1,I1,q1⟩,rn_,h J s Z H Q I hw,ro_,(T.T 0 x).map Ma,rp_,(by simpa using hs),rq_,f1 Ed (Ac (Ep n! Au cY_) Ag),rr_,swapsWith e none pos.line X.env=pure false,rs_,(by rw[e.its,ei,ew]at c1;exact c1),rt_,⟨e.its,e.txt,e.num,rs!⟩,ru_,.Return none pos,rv_,(λ_ s'=>∃hx H',Inv X J hx H' s'/\Q hx H'),rx_,[dH!,.fn t.A8,.fn t.A9],ry_,(dW!).flatMap ez!,rz_,eval i X.env,rA_,cZ cZ! λv s1 ⟨x,H1,I1,r1,q1⟩=>?_,rB_,if v=0 then Rg l else _,rC_,Sw ai_ (Ao 3 (Hz n) ut_),rD_,Oq (Em bZ! bZ! Ng),rE_,HI (I.pin p hp).1,rF_,[z!,G!,dI!,I!,some c,y5,y6,y7],rG_,JD (ax.txt c) c!,rH_,bL (d:=c) rfl,rI_,["enumerate","zip","dict_itemiterator","dict_reverseitemiterator","odict_iterator","itertools.zip_longest","itertools.pairwise"],rJ_,l.map λz=>D.int (z.2:Nat),rK_,Di (fT (f2 Ap w! cd!)),rL_,Ah (Rv (My 1 w!)) (An 2 (w2 Bt c0_ L_)),rM_,acc.map D.str++[.str (lnS W d c)],rN_,f2 Eb s_ w!,rO_,An 4 (AE (wT rO!) L_ il!),rP_,Bk (Bb t.B5 "put_behind" 3 (Cs t) (w2 Bt ct! aj!) l8!),rQ_,By eD_ u! im!,rR_,By rR! u! (Wb l9! (wl cs_)),rS_,.Name "range" p,rT_,starEach [a] X.env=[dK_],rU_,(Da rT! do! none),rV_,starEach af! X.env=[dK_,ir_],rW_,.Call rS_ af! [] pos,rX_,Bk (Bb t.B5 "put_behind" 3 (Cs t) (w2 Bt eD_ L_) (Ab f9_ (Ab is_ Af))),rY_,By rY! f9_ (wl bv_),rZ_,f2 Al dL! F_,r0_,hO.op o (hp.mem_iff.mp (u8.subset ho)),r1_,w2 Bt eD_ u!,r2_,step x H5 y5,r3_,Ax (wT (Bb t.B5 "holds" 2 (Hk t) r1_ (Ab is_ Af))) (By (As t.B4 "hidden" i!) is_ me_) Ch,r4_,I7.pin (b,o) r4!,r5_,[X!,k2_,u_,none],r6_,c9o ha O I h λv u s2 x y H2 I2 rx ry q=>ho J s2 Z H2 x y v u Q I2 rx ry q,r7_,.int bw! s.toks,r8_,aR (lC T) e! rfl b2! aL!,r9_,Sa λi j=>.int (i - j)]
def z's:String:=z [sa!,Ax (Di (fT (f1 Az c3!))) (By u! r9! (wl gc!)) Ch,sb!,aR (iD T) e! rfl mm_ aL!,sc!,aR (iC T) e! rfl (aD (dS E! dY c3_) aK) aL!,sd!,aR (iC T) e! rfl b2! aL!,se!,fI aC_ bZ E! aP v!,sf!,fI a9j a9t E! dI v!,sg!,compareOp .Gt,sh!,Di (fT (f2 Bc bx! (fC ge_))),si!,λx y H Q=>r x y H Q\/r' x y H Q,sj!,iK uH rfl T.Q4 rfl T.R4 cH sD E!,sk!,Wf r r' ta tb tc,sl!,An 1 (Hs t.B4 1 (Hy t) Af),sm!,Ab u! (Ab aj! (Ab (wl ms_) Af)),sn!,Ea t.B3 "ours" i! u!,so!,w1 Pe (Ab (Ho dN! u! mv!) Af),sp!,(show False from e),sq!,wT (w2 (λ_=>Br) gg_ bZ!),sr!,.builtin "abs",ss!,(λxs H Q=>∃i,xs=[bc_]/\Q (.int iD!) H),st!,w2 iy_ (wl mx_) (w2 Iv ss_ (wl t_)),su!,.int (x.cps.getD 0 0:Nat),sv!,λ_ _ _ _ _=>sL (eX (bM aC_ bZ a2! V! v!)),sw!,⟨.int i_,H,aZ_,⟨_,by simp only[GQ];rw[ak]⟩,q⟩,sx!,aT aN bI V! aB,sy!,W.plainGet K C name=true,sz!,wl (f2 Ai O_ C_),sA!,Ax sx_ (An 5 (w2 Bt (w2 Bt dN! sz!) (wl (f2 Dl (f2 Ai O_ t_) t_)))) (Ax sz_ Gr (An 5 (Hw L_ aj! ai_))),sB!,Di (fT sC_),sC!,Ax sB! Gr Ch,sD!,cV (aD a2! mm_),sE!,Cp (w1 Qh b0_),sF!,f2 Ai F_ C_,sG!,iJ (n:=10) rfl,sH!,wT (w2 (λ_=>Jr) aj! (Ho L_ gj! (Ao 2 (Hh t) (Ab i! (Ab gj! Af))))),sI!,Ax sH! Gr Ch,sJ!,fT (f1 Md (Ac mD_ Ag)),sK!,Bk (Ao 2 (Hb t) (Ab i! (Ab (Ao 2 (Dg t) b3_) Af))),sL!,Bk (Jz (Hw dN! (wl my!) gg!) u!),sM!,W.findIn K au! "__init__"=some eM!,sN!,An 2 (Ca 1 [0] (Cp eL_) R_ (wT (Ao 2 (Gw t) (Ab u! bw_))) i!),sO!,wT (Ao 2 (Gw t) b3_),sP!,aR (fY T) e! rfl (aD E! (aD sx! aK)) aC!,sQ!,(aT fD fE by! aB),sR!,(show∃t,u=Value.str x t from r),sS!,aD (aR gk! e! rfl (aD ak! gk_) aC!) (aD cv_ aK),sT!,Ah (Ax (Ly (wT (Bb t.B4 "has" 2 (Cw t) L_ b0_))) Gr Ch) eH_,sU!,w2 (λ_=>Kr) (w1 Pe (Ab aj! Af)) aK_,sV!,An 5 (Su aj!),sW!,(aT mI mJ by! aB),sX!,Uw (Bb t.B4 "children_of" 2 (Dp t) L_ (Ab (wl (f2 Ai B! t_)) Af)),sY!,Ac (f2 Al sX_ t_) is!,sZ!,Jz aj! (wl (Av sY!)),s0!,λb u q=>GK _ q,s1!,f2 Dl s_ t_,s2!,.Attribute e f pos,s3!,Bh (f2 Ai n! (f2 Bz s_ dF_)),s4!,keywordEach [] X.env,s5!,.Call (.Attribute e m ag) args [] pos,s6!,.Tuple es x1 pos,s7!,bM eP! rC V! aj_ v!,s8!,fT (f2 Bc gc! (fC ge_)),s9!,Rb (Fi (f1 Bm (Ac (f2 Ai a1_ at!) Ag))) V_ (My 1 s8_)]
def z'ss:String:=z [sa_,fT (f1 Az iy!),sb_,Di (fT (f2 Bc bx! (fC eI!))),sc_,compareOp .NotEq,sd_,Di (fT (f2 Bc bx! (fC iz_))),se_,Di (fT (f2 Bc bx! (fC mp_))),sf_,Ab b2_ (Ab il! (Ab bZ! Af)),sg_,λx y H Q=>y=.non/\Q (.bl (decide (x=.non))) H,sh_,λx y H Q=>y=.non/\Q (.bl (!decide (x=.non))) H,si_,Di (fT (f2 Bc bx! (fC dH_))),sj_,Di (fT (f2 Bc bx! (fC iA!))),sk_,hc J s3 Z H3 _ I3 q3,sl_,wT (w2 iv! aj! L_),sm_,Ax sl_ (Bk (Ao 3 (Nc t) sm!)) Ch,sn_,Ah (Ea t.B3 "taken" i! Fg) (Ah (Ea t.B3 "waiting" i! gg!) mu!),so_,⟨H,aZ_,by rw[wR r];exact q⟩,sp_,aG (fQ T.T8 T.V3 k_ cu_),sq_,Ax sq! (Ea t.B3 "outline" i! (Ao 1 (Im t) mx!)) Ch,sr_,bA (bO (aL aH aJ E! (aT fD fE V! gd!) r_)),ss_,Bb t.B3 "have" 2 (Ej t) i! (Ab (wl my!) Af),st_,(λxs H Q=>∃x,xs=[.str x]/\eK_=1/\Q su! H),su_,Ax (wT (w2 iy_ (Bb t.B3 "have" 2 (Ej t) i! b0_) aK_)) (Bf aK_) Ch,sv_,.builtin "len",sw_,Cp (w2 Iv eL_ u!),sx_,wT (Ao 2 (Fv t) mA!),sy_,W.hasDictIn K C=true,sz_,wT (w2 iy_ sz! (As t.B3 "ours" i!)),sA_,Value×List Value->Shared->Prop,sB_,λ_ _ _ _ _=>bD (i:=0) (show([bd!]:List Str).Nodup by decide+kernel) rfl a_,sC_,f2 Eb B! F_,sD_,λ_ _ _ _ _=>sD!,sE_,An 4 (w2 Bt (w2 Bt u! ai_) (wl U_)),sF_,some (.builtin "object.__setattr__"),sG_,cv!<=sizeLine,sH_,By L_ gj! aj!,sI_,f1 (Bv t) a0!,sJ_,(by rw[GS];omega),sK_,Result->Shared->Prop,sL_,Dq.cons (j:=2) Dq.nil,sM_,W.makesIn K C=true,sN_,Di (fT (f2 Kr (f1 Bm c3!) C_)),sO_,w2 Iv (wl t_) (Ao 1 (Ee t) bw_),sP_,Ax sO! (Ah (Bk (Ao 2 (Ll t) b3_)) (Bf sO_)) Ch,sQ_,(show∃t,u=Value.int i t from r),sR_,Bk (Ao 2 (Fm t) b3_),sS_,Ao 2 (Jo t) mA!,sT_,An 2 (Ao 2 (Gf t) b3_),sU_,.ins C dx (Ko f y fs),sV_,(by rw[e];exact iK_),sW_,Rv (My 3 B!),sX_,f2 Ai B! C_,sY_,if g=f then some u else mA g,sZ_,aT fD fE sW! aB,s0_,f2 Eb s_ C_,s1_,Bf (w2 Iv (w2 Iv (wl (f2 Sh f3_ s1!)) (Bb t.B4 "text_of" 2 (Es t) i! c1!)) (wl (Rt (fC gm!) F_))),s2_,Bf (Ca 2 [1] (Cp (CB (Ao 2 (Pn t) (Ab i! (Ab ik_ Af))) ig_ Au)) eC_ gb_ (Ao 3 (Ls t) (Ab L_ b3_))),s3_,backTo pos (starEach args X.env),s4_,cC cO eO rfl T.Q5 eA (aD by! aK),s5_,f2 Al s_ t_,s6_,cZ (h pos J s Z H _ I hq) λus s1 ⟨xs,H1,I1,r,z,q⟩=>⟨by rw[<-r.length];exact z,?_⟩,s7_,I1.laid (t':=s1.toks) (λb u e=>GK _ e) y_ ?_,s8_,Av (Ac bx! (Ac eI_ iy!)),s9_,f2 Bz (f2 Cf s_ (f2 Al t_ (f2 Eh at! n!))) (fC (.int 41))]
def z't:String:=z [ta!,f2 Ai w! s9_,tb!,Cj 5 (f1 Ln c3!),tc!,Cj 6 (f1 Dt (Ac (f2 Al (Ep B! ig_ Au) (Ep B! Au ig_)) mM_)),td!,Cj 7 (f1 Dt (Ac (f2 Al B! (fC (.lst iO!))) (Ac (f1 Ck (Ac n! (Ac (f2 Al s_ U_) Ag))) Ag))),te!,Cj 8 (fC (.lst [eI!,eI!,eI!,iz_,iz_,ge_,ge_,dH_,iA!,b1_,mi_,mp_])),tf!,.Attribute o m ag,tg!,starEach aK! X.env,th!,backTo pos tg!,ti!,Gb (fT (f2 Bc bg_ (fC eI!))) (Bh (Av (Ac bg_ (Ac (f1 Dt (Ac B! mM_)) iQ!)))) Cq,tj!,.cons rfl .nil,tk!,Gb (fT (f2 Bc bg_ (fC iz_))) (Bh (Av (Ac bg_ (Ac be_ (Ac (f1 Dt (Ac B! (Ac (f1 Ck (Ac n! (Ac (f2 Al s_ at!) Ag))) Ag))) iQ!))))) Cq,tl!,(Value.ref ab!::eQ_),tm!,bU P! bF a3! by_ r_,tn!,Cj 10 (f1 Dt (Ac (f1 Lm c3!) (Ac (f1 Ck (Ac n! (Ac (f2 Al s_ cs_) Ag))) Ag))),to!,.Call (.Name x p) [] [] pos,tp!,Gb (fT (f2 Bc bg_ (fC ge_))) (Bh (Av (Ac bg_ (Ac be_ (Ac iR! (Ac (f1 Nu (Ac (f1 Ck (Ac n! (Ac (f2 Al s_ mP!) Ag))) iy!)) Ag)))))) Cq,tq!,(by simpa using B),tr!,Gb (Cy (fT (f2 Bc bg_ (fC dH_))) (fT (f2 Ap iR! cd!))) (Bh (Av (Ac bg_ (Ac be_ (Ac iR! (Ac (f2 Al t_ (f2 Bz tp_ (f2 Dl f2! (f2 Ai iR! U_)))) Ag)))))) Cq,ts!,Om CX P w K mg base N qual scope f cd A outer s H E,tt!,(show b∈ts_ from z),tu!,Gb (fT (f2 (Ul false) bg_ (fC (.tup [dH_,iA!])))) (Bh (Av (Ac (fC iA!) (Ac be_ (Ac (f2 Bz tp_ cs_) (Ac (f2 Dl (f2 Bz (f2 Cf O_ (fC (.int 48))) (fC (.int 2000))) (fC (.int 1000))) Ag)))))) Cq,tv!,x.above y c (KB h),tw!,Option Value,tx!,∀vs H Q E,sp vs H Q E->bx_=S!,ty!,Cj 7 (f1 Ck (Ac n! (Ac tx_ Ag))),tz!,Uh 4 b1! (f2 Al (Lo 4 b1!) t_),tA!,Uh 5 b1! (f2 Al (f2 Al (Lo 5 b1!) t_) (f2 Bz (f2 Cf bv_ at!) at!)),tB!,aL aH aJ (rZ (i:=1) c! tA_ r_) aB r_,tC!,iV I hg hm hv ?_ hn be,tD!,My 3 (Av (Ac (f2 Ai (fC (.lst [G_,(.int 5),(.int 15)])) b1!) (Ac (Lo 4 b1!) (Ac (Lo 5 b1!) (Ac bg_ Ag))))),tE!,eI (aU (sK T) e! rfl c7!),tF!,fT (f2 AC (Av (Ac (f2 Ai (Lo 1 iW_) U_) (Ac (f2 Ai (Lo 1 iW_) C_) Ag))) (Av (Ac dL! (Ac bx! Ag)))),tG!,if v<0 then(mU!).toNat else min v.toNat n,tH!,.tup [b1_,mi_],tI!,wT (w2 bv! (wl gc!) tH_),tJ!,By u! r9! (wl (f2 Bc gc! iw_)),tK!,f2 Eb a0_ s_,tL!,f2 Ai (f2 Ai O_ B!) t_,tM!,An 5 (wl (f2 Al B! t_)),tN!,f2 Ai O_ be_,tO!,fT (f2 Bc tN! tN_),tP!,An 5 (wl (f2 Al be_ t_)),tQ!,f2 Al (Ep O_ Au eV!) (Dv tQ_),tR!,Ep O_ eV! Au,tS!,Str.ofString "__getitem__",tT!,An 3 (Ca 1 [1] mW! R_ (Di (fT tS_)) (wl dG!)),tU!,((sIx items.size 0 lo:Nat):Int),tV!,.str "texts",tW!,Option Int->Hp->Prop,tX!,aD aB (aD aB mY_),tY!,Ab i! (Ab u! (Ab L_ l7_)),tZ!,Bk (Ao 4 Gi tY!),t0!,Ac my! (Ac mx_ Ag),t1!,s3.heap.objs.size,t2!,Ab i! (Ab ai_ (Ab (wl (Lx (fT O_) eI_ ic!)) (Ab gd_ Af))),t3!,(r.drop m1!).take m1_,t4!,By t3_ gd_ (wl a1_),t5!,f2 Ai (f2 Ai B! bv_) C_,t6!,bU P! bF m6_ w_ r_,t7!,aC (fI mG mL V! dI v!),t8!,Ac (f2 Al w! (Av a0!)) (Ac (f2 Ai mZ_ n!) (Ac (fC D_) Ag)),t9!,An 8 (Ca 1 [2,3] (Kt (Fi t7_)) R_ gb_ (wl (Av t8!)))]
def z'tt:String:=z [ta_,Cj 4 (f1 Ck (Ac n! c0!)),tb_,upd H1 dx hR!,tc_,λv H2=>v=.non/\Q fQ_ H2,td_,Gb (fT (Dj "str" bv_)) (Cj 7 cd!) Cq,te_,cZ mb! λus s1 ⟨vs,H1,I1,r,q⟩=>⟨I1.kIn,?_⟩,tf_,Cj 9 (f2 Ai b1! (f2 Bz O_ rJ!)),th_,⟨I2.kIn,?_⟩,ti_,starEach [] X.env,tj_,aF by_ (aF aS_ (aF cu_ aO)),tk_,I.hok.fresh (OH _),tl_,Gb (fT (f2 Bc bg_ (fC mp_))) (Bh (Av (Ac bg_ is!))) Cq,tm_,aW (i:=5) hW.nd rfl a_ tm!,tn_,X.mg x=some au!,to_,(∀v,(x,v)∉binds),tp_,f2 Cf O_ rJ!,tq_,(by simpa using Y),tr_,cellsFrom ab! scope.names [],ts_,([]:List Addr),tt_,λb z=>absurd z (q8 b),tu_,Cj 11 (f2 Al (Ey 1 [] (Eu w!) R_ aJ_ (Av go_)) (Dv (Ac (Av (Ac C_ (Ac (f2 Al t_ (f2 Bz O_ mP!)) Ag))) Ag))),tv_,Bh (Av (Ac bg_ (Ac (f1 Dt (Ac (Aa 11) mM_)) Ag))),tw_,W.fnOf name qual params body scope dV kV bo pm an ae ct,tx_,f2 Al s_ (f2 Eh (fC (.int 7)) be_),ty_,Cj 8 (f2 Bz bv_ at!),tz_,cC cO eO rfl T.Q5 eA eL!,tA_,aT nR nV aD! aB,tB_,Cj 9 (Nx (f1 Jy (Ac n! (Ac (f2 Al tx_ t_) (Ac F_ (Ac mP! Ag)))))),tC_,cZ mb! λus s1 ⟨vs,H1,I1,r1,q1⟩=>hc J s1 Z H1 vs us Q I1 r1 q1,tD_,An 3 (wl (Nx lZ_)),tE_,fT (f2 Kr F_ C_),tF_,Rv (Wh 1 F_ w!),tG_,if v<0 then max mU! 0 else min v (n:Int),tH_,wl (fC tH!),tI_,((sIx n n hi:Nat):Int),tJ_,s.heap.IsSliceOf sl vl vu .none,tK_,fT (f2 Jn B! gu!),tL_,fT (f2 Eb tL! w!),tM_,fT (f2 Ap F_ cd!),tN_,Av (Ac F_ c3!),tO_,Di (Cy tM_ tO!),tP_,sIx items.size items.size hi - sIx items.size 0 lo,tQ_,Ac (Av (Ac s_ c3!)) Ag,tR_,bU P! bF (aC bJ_) (aC cv_) r_,tS_,f2 Bc a0_ s_,tT_,tU!==0&&(1:Int)==1&&tP_==c8!,tU_,Ax (Di (Co (λρ=>((F_) ρ).bind Vn))) (Bf mX_) Ch,tV_,wl (fC tV!),tW_,wl (fC (.tup [f3!,lV!])),tX_,Ly (wT (Ao 3 Lv (Ab i! ip_))),tY_,aT aN bI V! (aT qW qX aB bJ_),tZ_,rZ (i:=4) c! b4! r_,t0_,rZ (i:=5) c! b4! r_,t1_,An 4 (Vm gu_ (wl (f2 Bc eI_ ib!))),t2_,HR (tE xs lo hi) hz,t3_,w2 Bt i2_ b2_,t4_,f1 Bm (Ac B! Ag),t5_,f2 Bc t5! dL!,t6_,Ax (Di (fT t5_)) (An 6 (wl (f2 Al bv_ t_))) Ch,t7_,f1 Bm (Ac a1_ Ag),t8_,bW (iE T) e! k_ dS_,t9_,f2 Al (Ep B! Au eW!) b1!]
def z'u:String:=z [ua!,Ep B! eW! Au,ub!,call eT! (v::us),uc!,(by rw[hj];simpa using ew),ud!,f2 Ai gv_ U_,ue!,slot_list_getitem.lookup,uf!,(by rw[GQ]<;>omega),ug!,(·.setIfInBounds j u),uh!,Em iZ_ mv! (Em tV_ Fg (Em m2_ Fg Ng)),ui!,An 1 (Oq uh!),uj!,JA _ _ (GN O),uk!,pJ x_ (gW cu_ cu_ vW),ul!,upd H p (.lst (xs.set j v)),um!,(by rw[hk];exact⟨_,I',q⟩),un!,Cp (w2 Bt bh! u!),uo!,Cp (Ao 2 Iz b3_),up!,An 6 (w2 Bt i2_ aj!),uq!,if b then 1 else 0,ur!,f2 Al (f2 Al B! uq_) (f1 Rw iQ!),us!,λw hw=>vZ rx fx r fs w mT!,ut!,(show its.toArray.any gx!=its.any gx! by simp),uu!,bE T.T9 T.U6 k_,uv!,bU P! bF uu! w_ r_,uw!,Ac n! (Ac (fC lS_) Ag),ux!,An 1 (wl (f1 Jq (Ac n! nb!))),uy!,An 2 (Hs t.B3 2 (Lw t) ux_),uz!,An 3 (Ao 1 (Pm t) c1!),uA!,⟨o,e,ex.2.1⟩,uB!,Slot T name id,uC!,attributeBase o name X.env cZ_=eval o X.env,uD!,Ax (Di (Ki (Co nb_) (Co nc_))) (Bf mX_) Ch,uE!,cZ rz! λv s1 ⟨x,H1,I1,r1,ty,q1⟩=>?_,uF!,backTo ab lG_,uG!,List.replicate k its,uH!,λ_ _ q=>GK _ q,uI!,GP (f:=b!) w,uJ!,.lst (xs++zs),uK!,gi.toArray.size,uL!,⟨h.nd,H!,λa ha b O=>by simp at O;subst O;exact λz=>h.no ja_⟩,uM!,(by rw[P];simp[hm]),uN!,λz=>fq.2.2 _ z _ c_ rfl,uO!,(show(uM_:List Str).Nodup by decide+kernel),uP!,T.V4 _ rfl rfl rfl rfl,uQ!,Aq jc_ a0 b0,uR!,gc.2.2 _ this _ c_,uS!,starEach [e] X.env,uT!,ns.map WData.int,uU!,(∀b,b≠f->b≠p->M' b=M b),uV!,fI aC_ bZ mC! aP v!,uW!,rH (fS (aR (lE T) e! rfl b2! aL!)),uX!,(u++n::v++bK!),uY!,(show(uX_:List Str).Nodup by decide+kernel),uZ!,Params->W.Frag,u0!,(∀(s:Shared) (u:Value),BindsTo s fd jh! [(x,u)]),u1!,[.int a,.int b,.int c],u2!,∀(kV bo pm:Value) (an:a4_) (ae ct:Value) (us:h_),ap_=S!->bindArgs nq_ c6_=pure c5_,u3!,u'++[cA_]++v,u4!,.inl (.inl (e _ _ h)),u5!,(by rw[<-z];exact hq),u6!,bE T.T8 T.V3 k_,u7!,Str×NameKind,u8!,aU (nA T) e! rfl c7!,u9!,(by simpa using hk)]
def z'uu:String:=z [ua_,By bh! b2_ (wl (f2 Al t9_ ua!)),ub_,Ep gv_ Au cY_,uc_,⟨z,H,I,ao,q⟩,ud_,An 9 (Ca 1 [2] (Kt (Fi a1_)) R_ gb_ (wl (f2 Al ub_ (Av m8!)))),ue_,λr s'=>r=w/\EP X J Z Q r s',uf_,By bh! b2_ (Ca 1 [9] (Kt (Eu B!)) R_ gb_ (Xf (Ab (wl a0_) (Ab (wl dG!) (Ab (Mf (wl dG_) (w2 iv! (wl a0_) u!)) Af))))),ug_,bU P! bF i3_ w_ r_,uh_,An 2 (Ao 1 Lu bw_),ui_,wT (w2 iv! (wl (f2 Ai ms_ C_)) tH_),uj_,Ac sF! (Ac (f2 Ai F_ t_) Ag),uk_,Ly (wT (Ho L_ (wl (Av uj_)) mX_)),ul_,Bk (Ao 2 Vi l8!),um_,f2 Bc dG! s_,uo_,An 5 (w2 Iv (wl (f2 Sh f3_ w!)) (Ao 2 Hc (Ab i! (Ab aj! Af)))),up_,if a then 1 else 0,uq_,fC (.str " ["),ur_,fC (.str "="),us_,(An 5 (w2 Iv (w2 Iv (wl (f2 Al ur! ur_)) (w1 (λ_=>Rw) (Ab m9! Af))) (wl (fC (.str "]"))))),ut_,Ab i! (Ab aj! (Ab (wl (f2 Al w! t_)) Af)),uu_,λh' c' kp e=>fin its r' hz h' c' kp e,uv_,(by simp only[GQ]<;>omega),uw_,(λ_ e=>nomatch e),ux_,Ab (wl at!) Af,uy_,Bk (Ao 2 (Sl t) ip_),uz_,⟨⟨o,e,ex.1⟩,λa e2=>?_⟩,uA_,Ac (Ey 1 [] (Eu F_) R_ aJ_ lW_) Ag,uB_,typeOf eT!=pure (.type "method_descriptor"),uC_,λ_ _ _ _ _=>bD (i:=0) (show([ar!,ai!]:List Str).Nodup by decide+kernel) rfl a_,uD_,.Attribute o name ag,uE_,Bf (w2 Zr ai_ (Ao 3 (Hz 20) (Ab (Ao 1 Po b0_) (Ab ik_ l9!)))),uF_,List.replicate k xs,uG_,Obj.mapSeq f,uH_,bW (jQ T) e! k_ (aF gp_ aO),uI_,GP (f:=b!) z,uJ_,mN (i:=2) (NL:=bG!) (NF:=aR_) (ix:=[0]) dP.nd rfl a_ rfl c! n_ (bV (sc:=Ae Er) rfl n_) nc! c! rfl (eI gz!) (λ_ _ _ _ _=>bD (i:=0) (show([cp_,ar_]:List Str).Nodup by decide+kernel) rfl a_) aL_ (λ_ _ _ _ _=>sL (fP (aU (nT T) e! rfl (aF w_ c7!)))) mI!,uK_,⟨h.no,h.nd⟩,uL_,λa ha b O=>?_,uM_,["check","part"],uN_,bf.2.2 a ha b O,uO_,(λx=>by simp),uP_,Heap.SameBut a s.heap h',uQ_,Aq jd! b0 a0,uR_,bf.2.2 _ this _ c_,uS_,starEach [e,f] X.env,uT_,pre_splitW vk,uU_,(by rw[km];simp),uV_,⟨?_,⟨_,_,_,_,(mup_ne h.ne).trans mup_same,mup_same,K'⟩,h.ne⟩,uW_,Bool->Hp->Prop,uX_,["place","value"],uY_,(by rw[GX];exact hl),uZ_,∀(w:World) (h:Heap),YP w h->(bL!).In h,u0_,[.int a,.int b],u1_,Wz K x qual st f fd,u2_,K.lookup f=some ⟨oc,od,.func nq_,dt⟩,u3_,GP (f:=b!) this,u4_,.inl (.inr ⟨o,e _ _ h⟩),u5_,⟨o.slots,e⟩,u6_,⟨_,h.mem.mpr aA!,rfl⟩,u7_,ForInStep.yield ((name,a)::r),u8_,ForInStep (List e3!),u9_,(if(k==gD_)=true then _ else _)=_]
def z'v:String:=z [va!,V->V->Hp->Prop,vb!,aL aH aJ ak! aB r_,vc!,eval b X.env,vd!,X.N[j]?=some x,ve!,(show([h4!,aI_,bX!]:List Str).Nodup by decide+kernel),vf!,.obj t.B4 Y!,vg!,ForInStep.yield ok,vh!,R (.lst bj!) M,vi!,.inr (.inr ⟨cR_,rfl⟩),vj!,([]:List Value),vk!,(λv z=>by cases z),vl!,λ_ _=>False,vm!,eval cV_ X.env,vn!,(∀p,a7!∉W.rows),vo!,X.env.kindOf y.1=some .cell\/X.env.kindOf y.1=some .free,vp!,∀cl C al a9 fp,PE b9_ du te,vq!,cZ (az J s Z H _ I h) λv s1 B=>cZ B λve s2 Y=>?_,vr!,⟨IA (HH O hC),IA (HH O hD)⟩,vs!,.inr (HR I2.sz hC),vt!,λx c h=>(vs_).1,vu!,∀a vs,Et K H a vs->Et K H' a vs,vv!,[A!,q0!,aM_,none],vw!,λ_ _ q=>e.seq q,vx!,λ_ _ q=>bS e q,vy!,((jv!).map b!)=_,vz!,[bH_,bc!,cW!],vA!,(by rw[show hb+(js.length+1)=hb+1+js.length by omega];simpa using h'),vB!,(d2_).map λk=>.tup gM!,vC!,Z[i]?=some ca_,vD!,[cW!,h5_,lK_],vE!,(by rw[z];exact hA.r5),vF!,⟨r,f,p,g1,?_,g3,g4,g5⟩,vG!,⟨λJ s Z H Q I ⟨G,ρ,d,er,e,k⟩=>h J s Z H Q I nO!⟩,vH!,[aV_,aN!,.int (k':Nat)],vI!,⟨_,_,_,rfl⟩,vJ!,OR X.K own G H Z ρ,vK!,setT W i (U++nR!::v),vL!,b8f hr ha.ok O.ok hs,vM!,(by rw[hl,HM];exact HJ _ z),vN!,λx H'=>∃k,x=.bl k/\Q k H',vO!,"_law_sibling",vP!,⟨b1p h.ok⟩,vQ!,b7g ha.ok O.ok,vR!,c5n ha.ok O.ok,vS!,b8h ha.ok O.ok,vT!,λv G2 H2 s2 r2=>k v G2 H2 dj_ r2,vU!,c5p ha.ok O.ok,vV!,a5s hc.ok ha.ok O.ok,vW!,dC h.ok hs.ok bz,vX!,(by rw[<-aI r1];exact gF hl),vY!,s1.sub.free hp,vZ!,mup_ne (nq c (fw c jG!)),v0!,⟨G,ρ,ds,er,e1,λvs G1 H1 s1 r1=>hd s1.sub r1 e' λv G2 H2 s2 r2=>k v G2 H2 dj_ r2⟩,v1!,K5 c (n0_).1 (n0_).2.1 (n0_).2.2,v2!,if c=r1 then _ else _,v3!,mup_ne (nq c hc),v4!,∀ρ ds,fs ρ=some ds->f_=n,v5!,(by rw[GW];omega),v6!,c≠r1/\c≠f1/\c≠p1,v7!,k _ G H aO_ (hg _ _ G),v8!,λi j=>decide (0<=j)&&decide (j<=1000000)&&decide (dL_<2 ^ 64),v9!,(by rw[y];exact z)]
def z'vv:String:=z [va_,λp hp=>hn p jn!,vb_,oK cells r _ x h,vc_,if x=n then[.int 0,.int 0,.int 0,.int 0]else W.num x,vd_,∀b∈fp,b<N!,ve_,Str.ofString "hidden",vg_,w.sg x L q hq,vh_,[ar_,fV_,fW!],vi_,[⟨tg,iter,c8,0⟩],vj_,([]:List (Str×Value)),vk_,mup_ne (GN p2),vl_,∀a p,(a,p)∈W.rows->rk p<rk a,vm_,I8.pin (b,o) r4!,vn_,λz=>r1 (q.mpr z),vo_,∀cl C al a9 fp,Pi b9_ c8 tt,vp_,Ym NL.length ix wi g tt te,vq_,(by rw[z];exact ju),vr_,λb o O e=>(bu.2 b O).trans e,vs_,ff c (pp x c h),vt_,λx c h=>(vs_).2,vu_,∀a kvs,Rd H a dM_->Rd H' a dM_,vv_,Am.map ht hl hd xs vs r,vw_,λ_ _ q=>b1l e q,vx_,⟨a,vs,rfl,h,r⟩,vy_,r.mono (hX h),vz_,⟨_,_,_,_,_,_,_,_,_,_,_,_,q1⟩,vA_,⟨v,B,Y.mono x.g⟩,vB_,(d2_).map λk=>z+aY!,vC_,(U++(s,c,true)::v),vD_,Ay M1 a5 nM!,vE_,ar _ fa_ fa_ fa_,vF_,Yz X.K own f,vG_,∀Z G H Q ρ d,OR X.K own G H Z ρ->ft ρ=some d->(∀G' H',Ce G H G' H'->Q d H')->t Z H Q,vH_,setT W i (U++(nP!).map d4!++v),vI_,.int (k0:Nat),vJ_,(D.tup jC!,D.str al!,true),vK_,b2c ho ha.ok O.ok hm,vL_,b2a ho ha.ok O.ok,vM_,b1r ho ha.ok O.ok hm,vN_,⟨d,rfl,nR_⟩,vO_,if i∈W.its then setT W i (wrT b d6! bk!)else W,vP_,⟨b7f h.ok⟩,vQ_,⟨G1,ρ,d,di_,e,λG2 H2 s2=>k G2 H2 dj_⟩,vR_,⟨b8b h.ok⟩,vS_,λv G1 H1 s1 r1=>?_,vT_,k _ G1 H1 s1 Ar.bl,vU_,k _ G1 H1 s1 Ar.bl,vV_,[bm_,bm_,bm_,bm_],vW_,Ay d7_ a4 d8!,vX_,s1.trans (Ce.laid s1.sub hp),vY_,K5 c (n0!).1 (n0!).2.1 (n0!).2.2,vZ_,vM hc hg hm hv ha.ok hn be he av,v0_,zB hc hg hm hv ha.ok hn be he av,v1_,Xk X.K ps.length g,v2_,∀ρ ds,fs ρ=some ds->f_=S!,v3_,(aK!).length=S!,v4_,(by simpa using hp),v5_,(by rw[IN];decide),v6_,∀i j H,Ar K H bw! (gv i j),v7_,λ_ j=>decide (0<j)&&decide (j<1073741824),v8_,.bl (Rj i j),v9_,PO X lo (Za X.K own ol)]
def z'w:String:=z [wa!,PO X hi (Za X.K own oh),wb!,hg.chl_same w.rnd,wc!,λG3 H3 s3=>?_,wd!,c1 r' ah! ah! ah! ah! ah! ah! ah!,we!,λa z=>(by subst z;cases e2),wf!,.builtin "all",wg!,(λ(r:Fl) (M':Mh)=>match r with|.rt d=>R d M'|.nx _=>R .non M'),wh!,i=f_->ac.stop i H',wi!,Ay M5 a3 (.dct nV! (Ge k3 n e3)),wj!,Zp K 2 (Tt eB_ (Tt (Nw j) Zq)),wk!,⟨cP (by rw[<-aI ao];omega),?_⟩,wl!,((oe_).mono x3.g).mono x4.g,wm!,λx0 x1 x2 x3 x4=>(he x0 x1 x2 x3 x4).ok,wn!,λac G1 H1 x1 fh=>?_,wo!,DS X own bh st q1,wp!,swapsWith e (some dk!) pos.line X.env=pure false,wq!,a9h hN hi L h.ok hs hf,wr!,⟨G',ρ,r,er.grow x',e2,k⟩,ws!,cs.map λ_=>D.bl true,wt!,λj d q n=>?_,wu!,λz=>absurd z.symm cp,wv!,.nx (ρ.set i (some (.lst (ds++[d])))),ww!,.Call (.Attribute bn! "append" ag) [e] [] ab,wx!,dC h.ok fB bz,wy!,DE X own ix fx,wz!,nQ hN yi hd bv,wA!,(x.trans x2).h _ _ h3,wB!,λi hi p e=>?_,wC!,λy=>NameG y,wD!,(if jV!<=big then Option.map D.lst (Fb _ _ _ ce_ ops)else none)=_,wE!,Wz K x qual st σ fd,wF!,O ae A outer s H E hr,wG!,vH I xs ys vs n n' rr bx,wH!,some (.tup [.int h',aN!,.int tm,.tup wA_]),wI!,(List.range (min us.toArray.size op_)).all (λj=>Eo oo_ op!)&&jY_==op_,wJ!,⟨[],rfl,rfl⟩,wK!,A.units+Hn d<cLine,wL!,⟨.bl _,H,I,rfl,q⟩,wM!,⟨dx,dy,rx.mono sub,ry.mono sub,h.1.1,h.1.2,h.2,d9_⟩,wN!,⟨G,ρ,x,er,e1,λv G1 H1 s1 r1=>⟨G1,ρ,y,di_,e2,λw G2 H2 s2 r2=>hg s2.sub gQ! r2 e3 λt G3 H3 s3 r3=>?_⟩⟩,wO!,(r2.mono s3.g).mono s4.g,wP!,[some gi!,bn_,some os_],wQ!,sSeq BM (sSeq Zs wP_),wR!,L2.Key×Value,wS!,λJ s Z H Q I h=>?_,wT!,(Da its do! none++Da its none do!),wU!,b9t (k:=ov!) r1,wV!,(Da its none do!),wW!,List D->Option D,wX!,λi _=>fj!<=i,wY!,⟨(NQ.mp hc).1,λv fg hy=>?_⟩,wZ!,λi h=>i<=fj!/\St' i h,w0!,if f_<=1000 then _ else _,w1!,λi h st=>TF _ i h st,w2!,[dl_,.int base,.lst ops,.int most],w3!,("cut"==k||"set"==k),w4!,.tup [jU!,item,.int (m0 / 12%4),.int (m0 / 48%2000 - 1000)],w5!,fU (g:=Ul false) (x:=.str k) rfl rfl (in2 k "cut" "set"),w6!,s.heap.IsTuple tt xs]
def z'ww:String:=z [wa_,.Subscript a mZ! pos,wb_,a5r (Yd.or b6o b1i) ha.ok hl hh,wc_,s4.trans jI_,wd_,mup_ne (GN (nq a4 (fw a4 (s3 a4 A4)))),we_,(λxs H Q=>∃x n,xs=[x]/\Zv K x H n/\Q gi! H),wf_,Ab jM! (Ab (wl f2) Af),wg_,(∀d,ds[i]?=some d->ac.go i H'/\∀x fg,ac.yld i H' x fg->∃rh,Ce G' H' rh fg/\Ar K rh d x),wh_,⟨cG!,λhi=>by rw[GX,KZ]at hi;exact NS hi.symm⟩,wi_,[A!,d9!,some a,d4_,none],wj_,iH w.rnd db z,wk_,jJ (rows:=W.rows) (i:=i),wl_,Yz X.K [] ft,wm_,b2b ce b8 j4 g9 cap calm az.ok hg hi wm! hs,wn_,CD X.K G0 F0 own h2 f,wo_,aw r' bC! bC! bC! bC! bC!,wp_,.Assign [cF!] e pos,wq_,.If c b1 b2 pos,wr_,s.or.sub.trans yg,ws_,cs.map λ_=>true,wt_,(jQ_).any λd=>Eo d a8_,wu_,(λb u e=>by rw[aV (hG e)];exact s.or.sub b u e),wv_,[e].length+(dT_).length+eX!<30,ww_,(n::r).map D.int,wx_,ρ.set i (some (.lst (ds.set k d))),wy_,.Subscript bn! ix p2,wz_,λiv G2 H2 x2 r2=>?_,wA_,[jT_,a,b,d6_],wB_,Ce G0 F0 G1 H1,wC_,⟨_,_,rfl,b1,b2,b3,b4⟩,wD_,.lst (.str "root"::ys),wE_,F.ok S (λvs H Q E h=>h.1) (λae A outer s H vs Q E hr h=>?_),wF_,⟨er,Ce.refl sub,al_⟩,wG_,(by unfold Be at h;exact h),wH_,[ay!,on_,wH!,y],wI_,(by rw[GQ,GQ,<-h3,<-h4,<-B,<-Y];simpa using hl),wJ_,a5h I _ _ _ n n' r r',wK_,[none,some gi!,some os_],wL_,letters.cps.toList.length,wM_,Bw g g' fa fb fc,wN_,⟨bb,rfl,?_⟩,wO_,nh.trans (s4.trans s5),wP_,sSeq Xz (sSeq dq14 dq15),wQ_,.bl (if neg then !(ds.any λd=>Eo d x)else ds.any λd=>Eo d x),wR_,[X!,an_,ay!,bn_,none,none,none,none,none,none,none,none],wS_,ha.ok J s Z H _ I h,wT_,mixKind X.prog X.w,wU_,(Da its do! none),wV_,Ok X.prog X.w X.K X.mg X.base k x ps g,wW_,λi _=>i<fj!,wX_,x.cps.toList.map λc=>.str al!,wY_,∀i h,St' i h->∃o,h.get? it=some o/\∀v,o.data≠.cell v,wZ_,Nat.ble ds.length 1000=true,w0_,GU (Nat.le_of_ble_eq_true hl),w1_,ys.map V.str,w2_,.str (Txt.join z ys),w3_,dC ha.ok fB hs,w4_,λw G2 H2 s2 r2=>?_,w5_,s.heap.IsTupleIter jt tt n,w6_,Builtin.SmallTypes.nextOf (.ref jt),w9_,a6d rfl rfl e1]
def z'x:String:=z [xh!,Addr,xz!,Around,xL!,Value,xM!,World,xR!,Program,xa!,Obj.cls_mapFields ..,xb!,(by first|rfl|(simp only[firstArgMember];rfl)),xc!,show A.in1.handled=none from hh,xd!,((ed!).extBut.push _).push _,xe!,ys[k2]?=some y,xi!,LX gz c_ λB lj b6=>?_,xj!,ij.extBut b6.extBut D.l1z,xk!,b6.extBut _ _ D.TOz gO,xl!,QG sj λh3 vw c9=>?_,xm!,((ip.extBut b6.extBut D.l2z).extBut bi.extBut D.l2i1).extBut c9.extBut D.l2TO,xn!,(by unfold Cy;rw[pX rfl (JW _)];rfl),xo!,b6.extBut _ _ c1 x,xp!,F.entry_zip_next,xq!,"StopIteration",xr!,a∈W.its/\Ff W b/\¬Wn W.rows a b,xs!,wrT b hc! ao!,xt!,[aV_,aN!,g0_],xu!,D.tup cg_∉pre,xv!,Fh W kd! rows',xw!,hg.winv w.inv hc.1 hc.2.1 hc.2.2,xx!,⟨fz.2.2.2.1,fz.2.1,fz.2.2.2.2.1,fz.2.2.2.2.2⟩,xy!,⟨f1.2.2.2.1,f1.2.1,f1.2.2.2.2.1,f1.2.2.2.2.2⟩,xA!,(List.range m'.toNat).map λk=>.tup gM!,xB!,λc o _ _ _ e _=>u5_,xC!,λc o _ e=>⟨o,e⟩,xD!,(λc xs e=>by rw[oI_];exact e),xE!,λc ps e=>⟨#[],by rw[oI_,e];simp⟩,xF!,ft ρ=some false,xG!,(λd q=>by rw[oJ_];exact q),xH!,Ab (wl f2) (Ab (wl f3) Af),xI!,bootBuiltins "zip"=some oC!,xJ!,(backTo pos (starEach [b] X.env)).any b!=false,xK!,Ab jM! (Ab (wl f2) (Ab (wl f3) (Ab (wl f4) Af))),xN!,⟨G,ρ,_,er,e1,λv G1 H1 s1 r1=>⟨G1,ρ,_,di_,e2,w4_⟩⟩,xO!,⟨_,_,rfl,rfl,d9_⟩,xP!,k="undo"\/k="redo",xQ!,λx L=>h x bP!,xS!,W.fnOf x x ks! bL_ bz_ .none kV bo pm an ae ct,xT!,∀(kV bo pm:Value) (an:a4_) (ae ct:Value) (us:h_),ap_=S!->bindArgs xS! c6_=pure c5_,xU!,λ_ K hK=>hK,xV!,rows.map (Zf w),xW!,k="undo"\/k="redo",xX!,Sum.inr.inj z,xY!,⟨rfl,rfl,rfl⟩,xZ!,fs.map V.ref,x0!,(a.map Op.key).Nodup,x1!,(show v=.none from L),x2!,(show oT!=true by decide+kernel),x3!,Nh .str os A,x4!,Nh .str os acc,x5!,OB hT LY.lookup ?_,x6!,((Ai o.v aB_).bind λx=>Ai x aS!)=_,x7!,(by unfold Nh;rw[hu];exact B),x8!,λM' bd y' B Y=>hR M' bd y' x7! Y,x9!,λM' ep y B Y=>hR p M' ep hp B λb O=>(Y b O).trans fp_]
def z'xx:String:=z [xa_,firstArgMember _ _,xb_,wpAny_handled ?_,xc_,GH (wpAny_throw ?_),xd_,xs[k1]?=some x,xe_,Builtin.«zip.__next__» ⟨[.ref z],[]⟩,xi_,bX g1 b6.extBut D.i1z,xj_,a1v xi_ xj! gx λY TH bi=>GH ?_,xk_,LS sj rfl ?_,xl_,bX (bX (bX g2 b6.extBut D.i2z) bi.extBut D.i12.symm) c9.extBut D.TOi2.symm,xm_,c9.extBut _ _ D.TOz.symm (bi.extBut _ _ D.i1z.symm lj),xn_,xs[k1]?=none\/ys[k2]?=none,xo_,⟨_,gz,rfl⟩,xp_,F.args_zip_next_1 _,xq_,BZ s.heap l1,xr_,a∈W.its/\Ff W Bo/\¬Wn W.rows a Bo,xs_,BX s.heap l1 l2,xt_,(nP!).map d4!,xu_,pre++[.tup cg_],xv_,(nu_).resolve_right e,xw_,setT W a xs!,xx_,⟨fO.2.2.2.1,fO.2.1,fO.2.2.2.2.1,fO.2.2.2.2.2⟩,xy_,⟨f2.2.2.2.1,f2.2.1,f2.2.2.2.2.1,f2.2.2.2.2.2⟩,xA_,λc o _ _ _ e _=>e,xB_,λc o hc e n=>?_,xC_,λv hv q hq=>?_,xD_,(λc o u e=>by rw[oI_];exact e),xE_,ft ρ=some true,xF_,I1.hok c o e,xG_,[A!,d9!,some d],xH_,X.mg "zip"=none,xI_,starEach af! X.env=dK_::starEach [b] X.env,xJ_,.Call (.Name "zip" p) af! [] pos,xN_,(λx y H Q=>Sa (λi j=>.bl mo_) x y H Q\/∃i j,x=.str i/\y=.str j/\Q v8_ H),xO_,hl J s Z H _ I h,xP_,Gj K mg x st ps,xR_,W.nsIn K mainGlobals x=some eM!,xS_,K.lookup f=some ⟨oc,od,.func xS!,dt⟩,xT_,W.codeIn K ae x=true,xU_,Lj gm! ki!=some v,xV_,(Sum.inr r.1:L2.Key)=Sum.inr y,xW_,(λz=>by simp at z),xX_,.tup [kj!,he_],xY_,∀a,k' (f a)=k a,xZ_,fs.map Value.ref,x0_,(λxs H Q=>(∃i,xs=[bc_]/\gh!<1920/\Q pH! H)\/∃z,xs=[.str z]/\Q (.str z) H),x1_,λx=>Bc x a8_,x2_,(show oT_=true by decide+kernel),x3_,Nh oW_ os hb,x4_,.nx [G!,I!,y'],x5_,⟨trivial,hR M ep y hp λb _=>rfl⟩,x6_,Ay M p (.dct (Aq acc a T!) (Ge acc a ep)),x7_,Mb ks k=some j,x8_,λo ho=>hd o (br.mem_iff.mp ho),x9_,(by rw[br.length_eq];simp;omega)]
def z'y:String:=z [ya!,(∀b,b≠q->M' b=M b),yb!,Ob P w s.heap es ks,yc!,o.data=.dict es ep,yd!,[G!,I!,ao_,Y_,z],ye!,λe=>hh (by rw[q3,e];simp),yf!,ks[i]?=some k',yg!,[eg_,none,none,none,none],yh!,(by simp[W0]at h),yi!,.obj t.B4 [],yj!,[root,Bo].Nodup,yk!,Ay yi_ a1 E_,yl!,mup_ne (GN jw),ym!,(by rw[zu,qj];simp),yn!,.obj t.B4 hn!,yo!,uK ho hc hd (by simp[Xv]),yp!,KL (s:=ei!) ho hd ?_,yq!,Builtin.Dict.takeOut a u,yr!,(by rw[cr,i1];rfl),ys!,Ha P w K G H a c,yt!,(if root=Bo then _ else(if Bo=Bo then _ else _))=_,yu!,(by rw[hM];simp),yv!,MR P w K M' G' H',yw!,List D->Mh->Prop,yx!,⟨λJ s Z H Q I ⟨G,ρ,M,R,st,e,k⟩=>h J s Z H Q I o7_⟩,yy!,(∀x∈os,x.nm∉pre),yz!,[G!,A!,ao_,some x.v,z],yA!,h5 q (by rw[ou];simp) ju,yB!,⟨_,rfl,k _ M' G' H' r' x' m'⟩,yC!,k _ M1 G1 H1 r1 x1 m1,yD!,λy hy z=>?_,yE!,λd M2 v G2 H2 r2 x2 m2 q2=>k d M2 v G2 H2 r2 ci! m2 q2,yF!,⟨r',f',p',v1,v2.keep (k _ bC!) (k _ cG_) (k _ cH!),v3,v4,v5⟩,yG!,(ops.map Op.nm).Nodup,yH!,[eg_,A!,ao_,none,none],yI!,(λx _=>by simp),yJ!,⟨B,Y.mono (Bg.refl G) (aV O)⟩,yK!,some (.lst (l.map Op.v)),yL!,λB Y z q=>?_,yM!,.dct o6! (Ge kvs d ep),yN!,⟨_,rfl,IH h⟩,yO!,acc.map Op.v,yP!,.int (cl!:Nat),yQ!,Builtin.Dict.keyAndDefault,yR!,a3w I B D' bu h4 ?_,yS!,JJ fin (λah s' ⟨e1,o,q1,q2,q3⟩=>?_) λ_ _ z=>z,yT!,BEq.comm (a:=Str.ofString "undo"),yU!,Aq acc u.2 fo!,yV!,if _ then _ else bE!,yW!,⟨el_,rfl,hd_,dq_⟩,yX!,λz=>Bc z x,yY!,(match rs[k]? with|some q=>!decide (q.2=p)|none=>false),yZ!,x1.trans kI! m1,y0!,Bm [.lst em!]=_,y1!,(f1 Bm ga_ bV!).bind (λz=>Jn hs! z)=_,y2!,[K_,M!,cC!,dl!,hw!,hx_,y],y3!,((List.range' k m)).map λj=>D.int pd_,y4!,(by rw[cond,GZ z]),y5!,.inr ⟨j,r!,Y,h3⟩,y6!,MH (LC (ha.run I1 fy! r1 λy M2 yv G2 H2 iv s2 r2 x2 m2 q2 I2 ry=>NI ?_)),y7!,⟨aw b dZ_,hr⟩,y8!,(by rw[hA.rn];simp),y9!,O.run I2 y8_ r2 λz M3 zv G3 H3 jv s3 r3 x3 m3 q3 I3 rz=>NI ?_]
def z'yy:String:=z [ya_,Option Nat->Shared->Prop,yb_,s.heap.get? d=some o,yc_,dictWalkPlain d u dr_ es km!,yd_,(by simpa using b9),ye_,(o0!).getD .non,yf_,az=none/\rest.find? dr!=Mb ks k,yg_,(by rw[<-e];exact q1),yh_,λi p h=>yh!,yi_,Ay M o yi!,yj_,⟨by rw[GY];exact b1o,H!⟩,yk_,.dct ko_ (o2_).length,yl_,pW (s:=ei!) hu x hk ho hd ?_,ym_,.dct kq! (o4!).length,yn_,dictSet a u v,yo_,Bl e4_ (.fn a4) o5!,yp_,es.eraseIdx j,yq_,(by simpa using am),yr_,.ins C dx vs,ys_,if root=root then _ else _,yt_,MR P w K M1 G1 H1,yu_,⟨?_,Y.mono x.g ?_⟩,yv_,D->Mh->Prop,yw_,Yh X.prog X.w X.K own f,yx_,∀Z G H Q ρ M R,So X.prog X.w X.K own G H Z ρ M->ft ρ M R->(∀d M' G' H',R d M'->XM M G H M' G' H'->MR X.prog X.w X.K M' G' H'->Q d H')->t Z H Q,yy_,⟨_,by assumption,h⟩,yz_,So X.prog X.w X.K own G H Z ρ M,yA_,(show hb+20*(os.length+1)=hb+20+20*os.length by omega),yB_,⟨G1,ρ,M1,R,kv_,r1,λd M2 G2 H2 r2 x2 m2=>k d M2 G2 H2 r2 ci! m2⟩,yC_,(by rw[show Op.nm x=Op.nm y from z.symm];exact GP hy),yD_,∀c,rl c≠.oth->M' c=M c,yE_,k _ M1 _ G1 H1 r1 x1 m1 Ar.bl,yF_,Ce.laid x1.sub hp,yG_,(∃pre,Rh W' pre),yH_,hp.mem_iff.mp L,yI_,(hr!).nodup_iff.mpr nn,yJ_,(by rw[e3,e1];exact O),yK_,((j+1:Nat):Int),yL_,∀au s',Inv X J Z ky_ s'->Ha X.prog X.w X.K G ky_ a yM!->Q () s',yM_,kget kvs d=some x,yN_,intBits_le_64 B Y,yO_,.builtin "dict.get",yP_,⟨o,rfl,h ho⟩,yQ_,[eg_,none,none,none],yR_,[eg_,fv_,none,none],yS_,PF (GH ⟨_,rfl,q3⟩),yT_,BEq.comm (a:=Str.ofString "redo"),yU_,Ge acc u.2 ep,yV_,sZ (A:=X.A) a! I m sub e ⟨_,r,rx⟩ hk λs' I'=>GH ⟨.bl _,H,I',rfl,q⟩,yW_,decide (q.2=x),yX_,∀q∈rs,Sd q.1/\Sd q.2,yY_,Ru X.prog X.w X.K r g,yZ_,.bl (!decide ((fx_).2=p)),y0_,⟨ys,z,rfl⟩,y1_,Addr×List ay_×Nat,y2_,Ay M2 q.1 (.lst (q.2++[v])),y3_,ifT (by rw[cond,HN z]) ?_,y4_,.Attribute o "get" ag,y5_,Uu M w rl W wt wn qa,y6_,⟨yv,q2,ry⟩,y7_,λb _ hr=>y7!,y8_,(fy!).grow x2 m2,y9_,⟨yv,q2.mono x3.g,ry⟩]
def z'z:String:=z [zS!,Shared,zT!,W.Frag,za!,(bS_).mono x3.g,zb!,[z!,M!,cC!,dl!,none,none,none],zc!,[z!,M!,cC!,dl!,hw!,nP_,none],zd!,s.heap.push {cls:=.type "dict",data:=.dict #[]},ze!,dE s.heap.objs.size [] 0,zf!,(rs.take a++bA!::rs.drop a),zg!,I.laid (t':=s.toks) uH! y_ ⟨⟨D0,KA.mpr (GN (IA I.big)),IP _⟩,let⟨o,h,_⟩:=D0;pe_,yL!⟩,zh!,⟨[],bP,.nil,MB⟩,zi!,MP X own pos keys jm fp,zj!,PUnit->Shared->Prop,zk!,Ay M c (.dct (acc++kvs) (n+az_)),zl!,Ay M s.heap.objs.size E_,zm!,λj hj p e=>?_,zn!,λb o e O=>?_,zo!,Di (knd "put"),zp!,Di (knd "drop"),zq!,Ax (Gs (Di (knd "write")) Ts) Sm (Ax (Gs (Di (knd "cut")) Ts) Wv Ch),zr!,Y.ok M0 G0 F0,zs!,Gs (Di ft) fu,zt!,b=false->q2 ρ M R,zu!,⟨λM0 G0 F0 J s Z H E I ⟨G,ρ,M,R,sr,e,k1,k2⟩=>e.elim⟩,zv!,sr.grow x1 m1,zw!,l.any λd=>Eo d x,zx!,.Subscript o i p2,zy!,.write m3 x3.sub hM,zz!,[e8_,e8!,.int (z+k)],zA!,Uf X own own body q1,zB!,λK hK=>?_,zC!,wi.sg a ha q hq,zD!,some (.tup [jT_,a0,b,tx]),zE!,decide ((l[k]).1=b),zF!,[z!,K_,fA_,bm!,y4,hB_,some G_,none,none,none],zG!,(.tup xt!,.str ⟨#[s.cps.toList.getD k.toNat 0]⟩,true),zH!,Yh X.prog X.w X.K [] ft,zI!,∀cl C al a9 fp,ME b9_ [] du fe,zJ!,⟨ig.or.cap NL.length ix m9,m1,al_⟩,zK!,.lst ((eo!).take at_++nw.map Bd),zL!,.lst ((wrT b nw ao!).map Bd),zM!,⟨G,ρ,M,_,st,e',zL_⟩,zN!,decide (a=root),zO!,Vv X.prog X.w X.K X.mg X.base k x C ps g,zP!,(d==sysModules)=false,zQ!,W.its++[D.tup S_],zR!,s.heap.IsKeyIter it d i es.length ep,zU!,GH (GF (KM s9 td ?_)),zV!,GH (GF (PZ hT ?_)),zW!,Obj.mapFields (·.setIfInBounds 1 zV_),zX!,⟨same.rows,same.its,jl_⟩,zY!,s0.heap.objs.size,zZ!,(∃ah,IsEnum h e it i ah),z0!,D X.A.in1 hh,z1!,[z!,Y_,some o.d,none,none,none,none,none,none,none],z2!,[kX_,.str ⟨#[q.1]⟩],z3!,X.mg "enumerate"=none,z4!,∀K:Bool->Mh->Prop,K b M->ft ρ M K,z5!,Nat.succ_ne_self _,z6!,λb O=>I1.fpOk (jl b O) (I1.hok.fresh (jl b O)),z7!,w2 (λ_=>Jr) (wl mx_) ss_,z8!,IntsAre jo.toList ms,z9!,(by rw[yA_];exact g4)]
def z'zz:String:=z [za_,⟨zv,q3,rz⟩,zb_,!decide (q.1=i),zc_,.Attribute o "pop" ag,zd_,⟨_,dJ_,xY!,rfl⟩,ze_,.inl ⟨rfl,λj hj=>by omega⟩,zf_,.lst ((em!).drop a),zg_,.lst ((em!).take a++[Bj bA!]),zh_,List ay_->Mh->Prop,zi_,⟨wt,wn,qa,g1⟩,zj_,λq=>decide fz!,zk_,ForInStep PUnit,zl_,CG X.prog X.w X.K M0 G0 F0 own h2 f,zm_,Ce G kO_ G' H',zn_,GL (λhr=>by rw[(s.root hr).2]at e;cases e),zo_,Di (knd "move"),zp_,Gs (Di (knd "set")) Ts,zq_,MS X own bh st q1,zr_,Aa 2 ρ=some oK_,zs_,b=true->q1 ρ M R,zt_,⟨G',ρ,M',R,sr.grow x m,r,k1,k2⟩,zu_,∀K:D->Mh->Prop,fo ρ M K=K x M,zv_,(zv!).grow x2 m2,zw_,fR (eU (iK mP rfl T.Q4 rfl T.R6 cH qG E!)),zx_,(ao!).length<5000,zy_,Y _ _ _ _ _ _,zz_,λd M' v G' H' r x m q=>?_,zA_,(λd=>match d with|.int k=>D.tup zz!|_=>.non)∘λi=>D.int cM!,zB_,(s,c,b&&!decide (s∈cv)),zC_,l[j]?.map b!,zD_,[z!,K_,zD!,fA!,y4,some kQ_,hx_,y,none,none],zE_,Ac g (Ac k Ag),zF_,⟨mz,cb.mr,al_⟩,zG_,[aV_,aN!,.int aY!],zH_,∀cl C al a9 fp,Pi b9_ c8 zH!,zI_,Ca NL.length ix fi bnd ft fe,zJ_,.lst ((eo!).drop at_),zK_,Dy X.prog X.w X.K X.mg X.base k C m ps g,zL_,λd M1 v G1 H1 r1 x1 m1 q1=>?_,zM_,D.tup S_∉W.its,zN_,.dct (en_++[(.tup S_,.lst [])]) (Ge en_ ad! e1),zO_,.dct (hE!++[(.tup S_,.fn q)]) (Ge hE! ad! e2),zP_,.builtin "ord",zQ_,GL (λz:i=.tup [.int h,.int n]=>hn (z▸hi)),zU_,(show¬((i:Int)<0)from by omega),zV_,rawInt ((i:Int)+1),zW_,⟨by show _<=_;simp only;omega,same.its,same.txt⟩,zX_,Sn w x0 d nm,zY_,(λi v=>∃c u,x.cps[i]?=some c/\v=.str al! u),zZ_,⟨_,s1,js!⟩,z0_,[z!,Y_,none,none,none,none,none,none,none,none],z1_,(by show 2<=sizeLine;rw[IN];decide),z2_,Gl X "enumerate",z3_,.Call (.Name "enumerate" p) [a] [] pos,z4_,∀x,(kget wd x=none/\kget kb x=none)\/∃k:Str,kget wd x=some T!/\kget kb x=some fo!,z5_,Gk x.d=none/\¬kget wd x.nm=some b1_,z6_,λi h ⟨o,ho,_,hd⟩=>⟨o,ho,λv z=>by rw[hd]at z;cases z⟩,z7_,IntsAre items.toList ns,z8_,(by simpa using c'),z9_,Ay pP! wt E_]
end
open Lean in
local macro_rules|`($s:ident)=>match s.getId with|.str .anonymous t=>let c:=t.back;if c=='!'||c=='_' then match (let b:=c=='!';if t.length<3 then if b then z'0 else z'00 else match t.front with|'a'=>if b then z'a else z'aa|'b'=>if b then z'b else z'bb|'c'=>if b then z'c else z'cc|'d'=>if b then z'd else z'dd|'e'=>if b then z'e else z'ee|'f'=>if b then z'f else z'ff|'g'=>if b then z'g else z'gg|'h'=>if b then z'h else z'hh|'i'=>if b then z'i else z'ii|'j'=>if b then z'j else z'jj|'k'=>if b then z'k else z'kk|'l'=>if b then z'l else z'll|'m'=>if b then z'm else z'mm|'n'=>if b then z'n else z'nn|'o'=>if b then z'o else z'oo|'p'=>if b then z'p else z'pp|'q'=>if b then z'q else z'qq|'r'=>if b then z'r else z'rr|'s'=>if b then z's else z'ss|'t'=>if b then z't else z'tt|'u'=>if b then z'u else z'uu|'v'=>if b then z'v else z'vv|'w'=>if b then z'w else z'ww|'x'=>if b then z'x else z'xx|'y'=>if b then z'y else z'yy|'z'=>if b then z'z else z'zz|_=>if b then z'0 else z'00).splitOn ("\r"++t++"\r") with|[_,f]=>do return z'Z (.fromRef (<-getRef)) f|_=>Macro.throwUnsupported else Macro.throwUnsupported|_=>Macro.throwUnsupported
open Lean in
local macro_rules|`(tactic|push_cast)=>`(tactic|show"pc!")|`(tactic|push_cast[$x,*])=>match z't't.splitOn "\rpc!\r" with|[_,f]=>do let s:=(z'Z (.fromRef (<-getRef)) f)[1][1][0][0][0];return s.setArg 4 (s[4].setArg 1 (mkNullNode (s[4][1].getArgs.push (mkAtom ",")++x.elemsAndSeps)))|_=>Macro.throwUnsupported
open Lean in
local macro_rules|`(tactic|show$s:str)=>match z't't.splitOn ("\r"++s.getString++"\r") with|[_,f]=>do let q:=z'Z (.fromRef (<-getRef)) f;let q:TSyntax ``Lean.Parser.Tactic.tacticSeq:=⟨q[1][1]⟩;`(tactic|($q))|_=>Macro.throwUnsupported
set_option hygiene true
open Lean in
def z'N:Nat->Syntax->Syntax
|n+1,.node _ k a=>.node .none k (a.map (z'N n))
|_,.atom _ v=>.atom .none v
|_,.ident _ r n p=>.ident .none r n p
|_,x=>x
open Lean in
local macro_rules(kind:=Lean.Parser.Command.declaration)|x=>if x.getPos?.isNone||x[1].isOfKind ``Parser.Command.theorem then Macro.throwUnsupported else let k:=z'N 9999 x[1];let u:=match k[1][0].getId with|.str _ s=>s.front.isUpper|_=>false;match k.isOfKind ``Parser.Command.definition,(x[0].reprint.getD "").trimAscii.toString,u with|true,"",false=>do return z'N 9999 (<-`(theorem $(⟨k[1]⟩):declId $(⟨.node .none ``Parser.Command.declSig #[k[2][0],k[2][1][0]]⟩):declSig $(⟨k[3]⟩):declVal))|true,"nonrec",_|true,"",_=>do return z'N 9999 (<-`(noncomputable def $(⟨k[1]⟩):declId $(⟨k[2]⟩):optDeclSig $(⟨k[3]⟩):declVal))|_,_,_=>return z'N 9999 x
open Lean in
local macro_rules|`(universe $x*)=>do let p:=`PySem.Challenge;let c:=p.str "cw_manyhands_k26_lines_of_it_holds";return mkNullNode (<-(p.str "pw_manyhands_k26_lines_of_it"::x.toList.map (λi=>c.str i.getId.toString)++(List.range 768).map λn=>c.str s!"o_{n+43}").toArray.mapM λn=>do return z'N 99 (<-`(noncomputable def $(mkIdent (PySem.W.Fast.stemOf n).1):ident:=0)))
universe env_41 heap_39 heap_46 heap_811 sts_101 sts_116 sts_159 sts_224 sts_254 sts_305 sts_49 sts_507 sts_544 sts_602 sts_680 sts_71 sts_763 sts_86 tree_100 tree_115 tree_158 tree_221 tree_253 tree_304 tree_421 tree_47 tree_503 tree_543 tree_601 tree_679 tree_70 tree_762 tree_810 tree_85 view_39
local macro_rules|`(tactic|omega)=>`(tactic|first|lia|omega +splitDisjunctions)
theorem z'Hd{G:Prop}(h:∀g:Prop,(G->g)->g):G:=h G λx=>x
local macro_rules|`(tactic|obtain $p:rcasesPatMed:=$e:term)=>do let s:=p.raw.reprint.getD "";if (s.splitOn ",").length>2+(s.splitOn "rfl").length then `(tactic|first|(refine z'Hd λg k=>?_;rcases $e:term with $p:rcasesPatMed<;>refine k ?_<;>clear g k)|rcases $e:term with $p:rcasesPatMed) else `(tactic|rcases $e:term with $p:rcasesPatMed)
noncomputable section
namespace L2
open PySem PySem.Spec PyProof.Rows
abbrev Key:=Sum Int Str
def Qt:Key->Value->Bool
 |.inl k,v=>Value.isInt k v
 |.inr x,v=>Value.isStrOf x v
def BH(w:xM!):Key->Int
 |.inl k=>hashInt k
 |.inr x=>hashStr w x
def bK:∀{k:Key} {v:xL!},Qt k v=true->(∃i t,k=Sum.inl i/\v=Value.int i t)\/(∃x t,k=Sum.inr x/\v=Value.str x t)
 |.inl i,v,h=>by
  obtain⟨t,e⟩:=Value.isInt_shape (k:=i) (v:=v) h;exact .inl ⟨i,t,rfl,e⟩
 |.inr x,v,h=>by
  obtain⟨t,e⟩:=Value.isStrOf_shape (x:=x) (v:=v) h;exact .inr ⟨x,t,rfl,e⟩
def zR(i:Int)(t:Tok):Qt (.inl i) dx_=true:=by simp[Qt,Value.isInt]
def rQ(x:Str)(t:Tok):Qt (.inr x) lk_=true:=by simp[Qt,Value.isStrOf]
def c8f(a b:Int):decide (lj_=Sum.inl b)=fN_:=by
 by_cases e:a=b
 .subst e;simp
 .have h:¬lj_=Sum.inl b:=λq=>e (Sum.inl.inj q);rw[GZ h];exact(KA.mpr e).symm
def c8c(a b:Str):decide (lk!=Sum.inr b)=decide (a=b):=by
 by_cases e:a=b
 .subst e;simp
 .have h:¬lk!=Sum.inr b:=λq=>e (Sum.inr.inj q);rw[GZ h,GZ e]
def c8e(a:Int)(b:Str):decide (lj_=Sum.inr b)=false:=GZ qg_
def c8d(a:Str)(b:Int):decide (lk!=Sum.inl b)=false:=GZ qg_
nonrec def mixKind(prog:xR!)(w:xM!):PySem.KeyKind prog w Key where
 is:=Qt
 hash:=BH w
 inj:=λv a b ha O=>by
  obtain⟨i,t,rfl,rfl⟩|⟨x,t,rfl,rfl⟩:=bK ha
  .obtain⟨j,u,rfl,e⟩|⟨y,u,rfl,e⟩:=bK O
   .injection e with e1 _;rw[e1]
   .exact ll_
  .obtain⟨j,u,rfl,e⟩|⟨y,u,rfl,e⟩:=bK O
   .exact ll_
   .injection e with e1 _;rw[e1]
 byValue:=λk v h=>by
  obtain⟨i,t,rfl,rfl⟩|⟨x,t,rfl,rfl⟩:=bK h<;>rfl
 pyHash:=λhv h=>by
  obtain⟨i,t,rfl,rfl⟩|⟨x,t,rfl,rfl⟩:=bK hv
  .exact wpAny_pyHash_int h
  .exact wpAny_pyHash_str h
 eqBool:=λhu hv h=>by
  obtain⟨i,t,rfl,rfl⟩|⟨x,t,rfl,rfl⟩:=bK hu
  .obtain⟨j,u,rfl,rfl⟩|⟨y,u,rfl,rfl⟩:=bK hv
   .rw[c8f]at h;exact wpAny_eqBool_int h
   .rw[c8e]at h;exact SeqAt.EqAt.int_str i t y u _ _ _ _ h
  .obtain⟨j,u,rfl,rfl⟩|⟨y,u,rfl,rfl⟩:=bK hv
   .rw[c8d]at h;exact SeqAt.EqAt.str_int x t j u _ _ _ _ h
   .rw[c8c]at h;exact wpAny_eqBool_str h
 «strs»:=λk x t v h=>by
  obtain⟨i,u,rfl,e⟩|⟨y,u,rfl,e⟩:=bK h
  .exact ll_
  .injection e with e1 _
   subst e1;cases v<;>rfl
def a6i(prog:xR!)(w:xM!)(i:Int)(t:Tok):(qh!).is (.inl i) dx_=true:=zR i t
def lG(prog:xR!)(w:xM!)(x:Str)(t:Tok):(qh!).is (.inr x) lk_=true:=rQ x t
end L2
namespace L2
open PySem PySem.Spec PyProof.Rows
inductive V where
 |non|bl (b:Bool)|int (i:Int)|str (x:Str)|byt (b:Array UInt8)|flt (b:UInt64)|ref (a:xh!)|ty (n:String)
 deriving DecidableEq
def Bp:V->Value->Prop
 |.non,u=>u=dz!
 |.bl b,u=>u=Value.bool b
 |.int i,u=>∃t,u=Value.int i t
 |.str x,u=>∃t,u=Value.str x t
 |.byt b,u=>∃t,u=Value.bytes b t
 |.flt b,u=>∃t,u=Value.float b t
 |.ref a,u=>u=Value.ref a
 |.ty n,u=>u=Value.type n
abbrev Ba:List V->List Value->Prop:=Paired Bp
def Ba.length{xs:k!}{us:h_}(r:fL_):i_=ap_:=LJ r
def Ba.get:∀{xs:k!} {us:h_} {i:Nat} {x:V},Ba xs us->xs[i]?=some x->∃u,us[i]?=some u/\Bp x u
 |_,_,_,_,.nil,e=>by simp at e
 |_,_,0,_,.cons r _,e=>by simp at e;subst e;exact lm!
 |_,_,i+1,x,.cons _ t,e=>by
  obtain⟨u,B,Y⟩:=Ba.get (i:=i) (x:=x) t cP_;exact⟨u,hN!,Y⟩
def Ba.set{x:V}{u:xL!}(r:Bp x u):∀{xs:k!} {us:h_} (i:Nat),Ba xs us->Ba (xs.set i x) (us.set i u)
 |_,_,_,.nil=>.nil
 |_,_,0,.cons _ t=>.cons r t
 |_,_,i+1,.cons q t=>.cons q (Ba.set r i t)
def Ba.append:∀{xs ys:k!} {us ws:h_},Ba xs us->Ba ys ws->Ba fN! (us++ws)
 |_,_,_,_,.nil,s=>s
 |_,_,_,_,.cons r t,s=>.cons r (Ba.append t s)
def Ba.take:∀{xs:k!} {us:h_} (n:Nat),Ba xs us->Ba (xs.take n) (us.take n)
 |_,_,0,_=>.nil
 |_,_,_+1,.nil=>.nil
 |_,_,n+1,.cons r t=>.cons r (Ba.take n t)
def Ba.drop:∀{xs:k!} {us:h_} (n:Nat),Ba xs us->Ba (xs.drop n) (us.drop n)
 |_,_,0,r=>r
 |_,_,_+1,.nil=>.nil
 |_,_,n+1,.cons _ t=>Ba.drop n t
def Ny:Option V->Option Value->Prop
 |some v,some u=>Bp v u
 |none,none=>True
 |_,_=>False
def KV{κ:Type}:List (κ×V)->List lo_->Prop:=Paired λ(p:κ×V) (q:κ×Value)=>p.1=q.1/\Bp p.2 q.2
nonrec def kV:Key->V
 |.inl i=>.int i
 |.inr x=>.str x
inductive HO where
 |lst (xs:k!)
 |tup (xs:k!)
 |dK (kvs:List (Key×V))|dT (kvs:hN_)
 |set (S:Int->Bool) (n:Nat)
 |ins (C dx:xh!) (fs:es_)
 |own (x:xh!)
 |xd (fs:es_)
 |met (f x:xh!)
 |rng (lo hi:Int)
 |frz (o:Obj) (u:HO)
 |tbl (ps:aa!)
 |ext (φ:Heap->Prop)
abbrev Hp:=Addr->Option HO
nonrec def upd(H:Hp)(a:xh!)(o:HO):Hp:=λb=>if b=a then some o else H b
def bP{H:Hp}{a:xh!}{o:HO}:upd H a o a=some o:=by unfold upd;rw[l!]
def aV{H:Hp}{a b:xh!}{o:HO}(h:b≠a):upd H a o b=H b:=by unfold upd;rw[GL h]
def cD{H:Hp}{a b:xh!}{o:HO}(h:H a=some o)(h':H b=none):a≠b:=by intro e;subst e;rw[h]at h';cases h'
section
variable(P:xR!)(w:xM!)
def Fj(H:Hp)(h:Heap)(a:xh!):HO->Prop
 |.lst xs=>i_<=sizeLine/\∃(its:h_) (n:Nat),Ba xs its/\h.get? a=some {cls:=.type "list",data:=.seq its.toArray n}
 |.tup xs=>i_<=sizeLine/\∃its:List Value,Ba xs its/\IsTup h a aQ!
 |.dK kvs=>az_<=sizeLine/\dA!=false/\∃vs,KV kvs vs/\h.DictOf bp_ a vs
 |.dT kvs=>az_<=sizeLine/\dA!=false/\∃xs:List lp!,
   Paired (λ(p:List Key×V) (q:List Key×Addr×Value)=>p.1=q.1/\H q.2.1=some qn!/\Bp p.2 q.2.2) kvs xs/\
   ∃o es ep,h.get? a=some o/\hO_/\o.data=.dict es ep/\es.toList=xs.map (entryOfKey fP!)/\(xs.map b!).Nodup
 |.set S n=>h.SetOf (intKind P w) a S n
 |.ins C dx fs=>H dx=some fP_/\bq!<=1000/\dx≠a/\h.get? a=some lp_/\
   ∃mA,h.Ns1 dx mA/\qn_/\PySem.Within mA lq!
 |.own _=>∃o,h.get? a=some o
 |.xd fs=>∃mA,h.Ns1 a mA/\∀f,Ny (fs.lookup f) (mA f)
 |.rng lo hi=>∃t u v,h.get? a=some {cls:=.type "range",data:=.fields #[.int lo t,.int hi u,.int 1 v]}
 |.frz o u=>h.get? a=some o/\Fj H h a u
 |.tbl ps=>h.get? a=some {cls:=.none,data:=.fields ps}
 |.met f x=>h.get? a=some (W.methodObj ae_ fQ_)
 |.ext φ=>φ h/\(∃o,h.get? a=some o)/\∀B Y:Heap,φ B->(∀o,B.get? a=some o->Y.get? a=some o)->φ Y
def Nz(H:Hp)(h:Heap):Prop:=∀a o,H a=some o->Fj P w H h a o
end
section
variable{P:xR!}{w:xM!}{H H':Hp}{h h':Heap}{a:xh!}{o:HO}
def Fj.lt(x:qo_):a<cQ!:=by
 cases o with
 |lst xs=>obtain⟨_,_,_,_,e⟩:=x;exact HI e
 |tup xs=>obtain⟨_,_,_,p⟩:=x;exact p.lt
 |dK kvs=>obtain⟨_,_,_,_,o,_,_,e,_⟩:=x;exact HI e
 |dT kvs=>obtain⟨_,_,_,_,o,_,_,e,_⟩:=x;exact HI e
 |set S n=>obtain⟨o,_,_,_,e,_⟩:=x;exact HI e
 |ins C dx fs=>obtain⟨_,_,_,e,_⟩:=x;exact HI e
 |own y=>obtain⟨_,e⟩:=x;exact HI e
 |xd fs=>obtain⟨_,⟨_,_,_,e,_⟩,_⟩:=x;exact HI e
 |rng lo hi=>obtain⟨_,_,_,e⟩:=x;exact HI e
 |frz ob u=>obtain⟨e,_⟩:=x;exact HI e
 |tbl ps=>exact HI qp!
 |met f y=>exact HI qp!
 |ext φ=>obtain⟨_,⟨_,e⟩,_⟩:=x;exact HI e
def Paired.mapP{α β:Type}{F G:cQ_}:∀{l₁:J!} {l₂:dA_},Paired F l₁ l₂->(∀a b,F a b->G a b)->Paired G l₁ l₂
 |_,_,.nil,_=>.nil
 |_,_,.cons r t,f=>.cons (f _ _ r) (Paired.mapP t f)
def Fj.stay(x:qo_)(k:∀b u,(b=a\/H b=some fP_)->h.get? b=some u->h'.get? b=some u)
  (ho:∀b,H b=some fP_->H' b=some fP_)(ht:qq!):Fj P w H' h' a o:=by
 induction o with
 |lst xs=>obtain⟨z,its,n,r,e⟩:=x;exact⟨z,its,n,r,bF_⟩
 |tup xs=>obtain⟨z,its,r,ob,e,c⟩:=x;exact⟨z,its,r,ob,bF_,c⟩
 |dK kvs=>obtain⟨z,y,vs,r,ob,es,ep,e,c⟩:=x;exact⟨z,y,vs,r,ob,es,ep,bF_,c⟩
 |dT kvs=>
  obtain⟨z,y,xs,r,ob,es,ep,e,c⟩:=x;exact⟨z,y,xs,Paired.mapP r λp q z=>⟨z.1,ht _ _ z.2.1,z.2.2⟩,ob,es,ep,bF_,c⟩
 |set S n=>obtain⟨ob,es,ep,t,e,c⟩:=x;exact⟨ob,es,ep,t,bF_,c⟩
 |ins C dx fs=>
  obtain⟨d,z,ne,e,mA,⟨od,es,ep,e2,c⟩,r⟩:=x;exact⟨ho _ d,z,ne,bF_,mA,⟨od,es,ep,k _ _ (.inr d) e2,c⟩,r⟩
 |own y=>obtain⟨ob,e⟩:=x;exact⟨ob,bF_⟩
 |xd fs=>obtain⟨mA,⟨od,es,ep,e,c⟩,r⟩:=x;exact⟨mA,⟨od,es,ep,bF_,c⟩,r⟩
 |rng lo hi=>obtain⟨t,u,v,e⟩:=x;exact⟨t,u,v,bF_⟩
 |frz ob u ih=>obtain⟨e,q⟩:=x;exact⟨bF_,ih q⟩
 |tbl ps=>
  have e:h.get? a=some {cls:=.none,data:=.fields ps}:=x;show h'.get? a=some {cls:=.none,data:=.fields ps};exact k a _ aA! e
 |met f y=>
  have e:h.get? a=some qr!:=x;show h'.get? a=some qr!;exact k a _ aA! e
 |ext φ=>obtain⟨p,⟨o,e⟩,st⟩:=x;exact⟨st _ _ p λo q=>k _ _ aA! q,⟨o,bF_⟩,st⟩
def Nz.lt(x:bq_)(e:H a=some o):a<cQ!:=(x a o e).lt
def Nz.fresh(x:bq_)(e:cQ!<=a):H a=none:=by
 cases q:H a with
 |none=>rfl
 |some u=>exact absurd (HH (x.lt q) e) dB!
def Nz.kept(x:bq_)(k:hQ!):Nz P w H h':=λa o e=>
 (x a o e).stay (λb u _ q=>k b u q) lr_ λ_ _ q=>q
def Nz.laid(x:bq_)(k:hQ!)(hp:cQ!<=a)(new:Fj P w cR! h' a o):Nz P w cR! h':=λb u e=>by
 have hn:=x.fresh hp;by_cases O:b=a
 .show"!w";exact new
 .rw[aV O]at e;exact(x b u e).stay (λc v _ q=>k c v q) (λc q=>by rw[fR!];exact q) λc xs q=>by rw[fR!];exact q
end
def Rd(H:Hp)(a:xh!)(u:HO):Prop:=H a=some u\/∃o,H a=some fR_
def Rd.ok{P:xR!}{w:xM!}{H:Hp}{h:Heap}{a:xh!}{u:HO}(r:Rd H a u)(x:bq_):Fj P w H h a u:=by
 obtain r|⟨o,r⟩:=r
 .exact x a u r
 .obtain⟨_,q⟩:=x a _ r;exact q
def BR:Option HO->Prop
 |some (.lst _)=>True
 |some (.dK _)=>True
 |some (.dT _)=>True
 |some (.set _ _)=>True
 |some (.ins _ _ _)=>True
 |some (.ext _)=>True
 |_=>False
section
variable{P:xR!}{w:xM!}{H:Hp}{h h':Heap}{x e:xh!}{o':HO}
def Nz.write(ok:bq_)(mu:BR (H x))(he:ls_)(k:qu!)(pb:lt!)
  (new:Fj P w (upd H x o') h' x o'):Nz P w (upd H x o') h':=λb u q=>by
 have RW:∀c y,H c=some (.own y)->c≠x:=λc y r z=>by subst z;rw[r]at mu;exact mu
 have WK:∀c xs,H c=some bF!->c≠x:=λc xs r z=>by subst z;rw[r]at mu;exact mu
 by_cases O:b=x
 .subst O;rw[bP]at q;cases q;exact new
 .rw[aV O]at q;by_cases mh:b=e
  .have q':H b=some hR!:=by
    obtain z|z:=he
    .exact absurd (mh.trans z) O
    .rw[mh];exact z
   rw[q]at q';cases q';obtain⟨v,hv⟩:=pb;exact⟨v,by rw[mh];exact hv⟩
  .refine(ok b u q).stay (λc v hc r=>k c v ?_ r) (λc r=>by rw[aV (RW c b r)];exact r) λc xs r=>by rw[aV (WK c xs r)];exact r
   obtain rfl|hc:=hc
   .exact mh
   .rintro rfl;obtain z|z:=he
    .exact RW c b hc z
    .rw[hc]at z;cases z;exact O rfl
end
structure Un(fs ex:aq!)(H H':Hp)(h h':Heap):Prop where
 keep:∀b o,h.get? b=some o->H b=none->b∉fs->b∉ex->h'.get? b=some o
 slot:∀b o,h.get? b=some o->H b=none->b∈fs->b∉ex->∃sl,h'.get? b=some {o with slots:=sl}
 free:∀b o,h.get? b=some o->H b=none->b∉ex->H' b=none
 there:∀b o,h.get? b=some o->b∉ex->∃o',h'.get? b=some o'
 tups:∀b xs,H b=some bF!->H' b=some bF!
 frzs:∀b o u,H b=some fR_->H' b=some fR_
 tbls:∀b ps,H b=some (.tbl ps)->∃pe,H' b=some qv_
section
variable{fs u9 ex ex':List Addr}{H H1 H2:Hp}{h B Y h':Heap}{a x e:xh!}{o:HO}
def Un.any(u:Un fs ex H H1 h B){b:xh!}(q:h.get? b=some ob)(n:H b=none)(L:b∉ex):∃sl,B.get? b=some {ob with slots:=sl}:=by
 by_cases O:b∈fs
 .exact u.slot b ob q n O L
 .exact⟨ob.slots,u.keep b ob q n O L⟩
def Un.kept(k:hQ!):Un fs ex H H h h':=
 ⟨λb ob q _ _ _=>k b ob q,λb ob q _ _ _=>⟨ob.slots,k b ob q⟩,λ_ _ _ n _=>n,λb ob q _=>⟨ob,k b ob q⟩,λ_ _ q=>q,λ_ _ _ q=>q,λ_ ps q=>⟨#[],by rw[q];simp⟩⟩
def Un.refl:Un fs ex H H h h:=Un.kept λ_ _ q=>q
def Un.laid(k:hQ!)(hp:cQ!<=a)(hn:hS_):Un fs ex H cR! h h' where
 keep:=λb u q _ _ _=>k b u q
 slot:=λb u q _ _ _=>⟨u.slots,k b u q⟩
 free:=λb u q n _=>by rw[aV (IA (HH (HI q) hp))];exact n
 there:=λb u q _=>⟨u,k b u q⟩
 tups:=λb xs q=>by rw[fR!];exact q
 frzs:=λb u xs q=>by rw[fR!];exact q
 tbls:=λb ps q=>⟨#[],by rw[fR!,q];simp⟩
def Un.write(mu:BR (H x))(he:ls_)(k:qu!)(pb:lt!):Un fs ex H lv! h h':=by
 have L:∀b,H b=none->b≠x:=λb n z=>by subst z;rw[n]at mu;exact mu
 have O:∀b,H b=none->b≠e:=λb n z=>by
  subst z;obtain r|r:=he
  .exact L b n r
  .rw[n]at r;cases r
 have hm:∀b u,H b=some u->¬BR (some u)->b≠x:=λb u q nm z=>by subst z;rw[q]at mu;exact nm mu
 refine⟨λb u q n _ _=>k b u (O b n) q,λb u q n _ _=>⟨u.slots,k b u (O b n) q⟩,λb u q n _=>by rw[aV (L b n)];exact n,λb u q _=>?_,
  λb xs q=>by rw[lv_];exact q,λb u xs q=>by rw[lv_];exact q,λb ps q=>⟨#[],by rw[lv_,q];simp⟩⟩
 by_cases mh:b=e
 .subst mh;exact pb
 .exact⟨u,k b u mh q⟩
end
def CF(h:Heap)(H:Hp):List Addr:=(qy_).filter λa=>(H a).isSome
def Sk(h:Heap)(H:Hp):Heap:=W.hideAll h (CF h H)
def b5m(h:Heap)(H:Hp):(hT!).objs.size=cQ!:=W.hideAll_size _ _
def c0d{h:Heap}{H:Hp}{b:xh!}{o:Obj}(e:qz!)(n:H b=none):(hT!).get? b=some o:=
 W.hideAll_get _ e λhm=>by
  have q:(H b).isSome=true:=(JP.mp hm).2;rw[n]at q;simp at q
def c3i{h:Heap}{H:Hp}{b:xh!}{o:Obj}(e:(hT!).get? b=some o):h.get? b=some o/\H b=none:=by
 have e':h.get? b=some o:=W.of_hideAll (CF h H) e;refine⟨e',?_⟩;cases q:H b with
 |none=>rfl
 |some x=>
  have hm:b∈CF h H:=JP.mpr ⟨MZ.mpr (HI e'),by simp[q]⟩;have z:(hT!).get? b=none:=W.hideAll_none (CF h H) hm;rw[z]at e;cases e
def Yb(g h:Heap)(ay:xh!):List et_:=(qy_).filterMap λa=>if a=ay\/(g.get? a).isSome=true then none else(h.get? a).map λo=>(a,o)
nonrec def rest(g h:Heap)(ay d:xh!):List et_:=(Yb g h ay).filter λp=>decide (p.1≠d)
end L2
namespace L2
open PySem PySem.Spec PyProof.Rows
structure Mod(K:zT!)(mg:B_)(base:Heap):Prop where
 kin:K.In base
 glob:base.Ns mainGlobals mg
 blt:∃mb,base.Ns builtinsNs mb/\∀x:Str,x≠"__name__"->mb x=bootBuiltins x
 nolimit:base.NoLimit
structure Cx where
 prog:Program
 w:World
 K:W.Frag
 mg:Str->Option Value
 base:Heap
 A:Around
 N:List Str
 s₀:Shared
 H₀:Hp
 env:Env
 outer:List Env
 stack:List Env
 ex:List Addr
 fn:Str->Bool
 calm:Bool
 pn:List et_
 xe:Value->Shared->Prop
nonrec def frs(l:aq_):List Addr:=l.filterMap (·.frame)
abbrev Cx.fs(X:Cx):List Addr:=frs X.outer
def Ww(sc:Scope)(x:Str):Prop:=sc.names.lookup x=some .local\/sc.names.lookup x=some .cell\/sc.names.lookup x=some .free
def Wa(sc:Scope)(x:Str):Prop:=sc.names.lookup x=some .local\/sc.names.lookup x=some .cell
def EM(env:Env)(h:Heap)(m:B_)(x:Str)(u:xL!):Prop:=
 (env.kindOf x=some .local/\m x=some u)\/((env.kindOf x=some .cell\/env.kindOf x=some .free)/\∃c,env.cells.lookup x=some c/\h.IsCell c (some u))
structure Cx.Ok(X:Cx):Prop where
 mod:Mod X.K X.mg X.base
 kind:lw_=.function
 glob:X.env.globals=mainGlobals
 blt:X.env.builtins=builtinsNs
 above:dB_<=X.env.locals
 inj:∀x y c,X.env.cells.lookup x=some c->X.env.cells.lookup y=some c->x=y
 has:∀x,qA!->∃c,X.env.cells.lookup x=some c
 cab:∀x c,X.fn x=true->X.env.cells.lookup x=some c->dB_<=c
 hd:X.calm=true->X.A.handled=none
 frames:X.A.frames=some X.stack
 stk:X.stack=X.outer\/(X.stack=X.env::X.outer/\X.env.frame=some X.env.locals)
 exf:∀b∈X.ex,b≠X.env.locals/\∀x c,X.env.cells.lookup x=some c->c≠b
 bs:∀b o,X.base.get? b=some o->X.s₀.heap.get? b=some o/\X.H₀ b=none
 bsz:X.base.objs.size<=dB_
 noex:∀b o,X.base.get? b=some o->b∉X.ex
 exfs:∀b∈X.ex,b∉X.fs
 funs:X.s₀.heap.FunFrames X.base X.outer
 frf:∀b∈X.fs,X.H₀ b=none
structure Inv(X:Cx)(J:l_)(Z:List (Option V))(H:Hp)(s:zS!):Prop where
 ok:X.Ok
 os:s.os=X.s₀.os
 bare:AllBare s.gens
 base:Un X.fs X.ex X.H₀ H X.s₀.heap s.heap
 loc:∃m,s.heap.Ns X.env.locals m/\∀(i:Nat) (x:Str) (v:V),X.N[i]?=some x->Z[i]?=some dC!->Ww X.env.scope x->∃u,Bp v u/\EM X.env s.heap m x u
 cell:∀x c,X.env.cells.lookup x=some c->∃v,s.heap.IsCell c v
 free:H X.env.locals=none
 freeC:∀x c,X.env.cells.lookup x=some c->H c=none
 pin:∀p∈X.pn++J,s.heap.get? p.1=some p.2/\H p.1=none/\p.1≠X.env.locals/\p.1∉X.fs/\∀v,p.2.data≠.cell v
 hok:Nz X.prog X.w H s.heap
 len:fS_=X.N.length
section
variable{X:Cx}{J:List (Addr×Obj)}{Z:List (Option V)}{H H':Hp}{s:zS!}{h':Heap}
def Cx.Ok.nofr(ok:X.Ok){b:xh!}{o:Obj}(e:X.base.get? b=some o):b∉X.fs:=λO=>by
 have:=(ok.funs.mem O).1;rw[e]at this;cases this
def Inv.bs(I:d!):∀b o,X.base.get? b=some o->s.heap.get? b=some o/\H b=none:=λb o e=>
 ⟨I.base.keep b o (hT_).1 (hT_).2 (I.ok.nofr e) qB!,I.base.free b o (hT_).1 (hT_).2 qB!⟩
def Inv.bk(I:d!):∀b o,X.base.get? b=some o->s.heap.get? b=some o:=λb o e=>(I.bs b o e).1
def Inv.mod(I:d!):Mod X.K X.mg X.base:=I.ok.mod
def Inv.kIn(I:d!):X.K.In s.heap:=I.ok.mod.kin.keeps I.bk
def Inv.lt(I:d!):X.env.locals<o_:=let⟨_,hn,_⟩:=I.loc;hn.lt
def Inv.sz(I:d!):dB_<=o_:=HR I.ok.above (LL I.lt)
def Inv.nofs(I:d!){a:xh!}(h:o_<=a):a∉X.fs:=λO=>by
 obtain⟨_,o,ho,_⟩:=I.ok.funs.mem O;exact absurd (HH hU! (HR I.sz h)) dB!
def Inv.cne(I:d!):∀x c,X.env.cells.lookup x=some c->c≠X.env.locals:=λx c e z=>by
 obtain⟨v,o,ho,hd⟩:=I.cell x c e;obtain⟨m,⟨o',es,ep,eh,xc,_⟩,_⟩:=I.loc;rw[z,eh]at ho;cases ho;rw[xc]at hd;cases hd
def Inv.funs(I:d!):s.heap.FunFrames X.base X.outer:=by
 have all:∀(l:aq_),(∀b∈frs l,b∈X.fs)->X.s₀.heap.FunFrames X.base l->s.heap.FunFrames X.base l:=by
  intro l
  induction l with
  |nil=>intro _ _;trivial
  |cons env r ih=>
   intro hs hl;obtain⟨hk,⟨ay,o,hf,hn,ho,hd⟩,hr⟩:=hl;have hL:ay∈X.fs:=hs ay (by unfold frs;rw[PU,hf];exact GO);obtain⟨sl,e⟩:=I.base.slot ay o ho (I.ok.frf ay hL) hL λz=>I.ok.exfs ay z hL
   exact⟨hk,⟨ay,_,hf,hn,e,hd⟩,ih (λb O=>hs b (by unfold frs;rw[PU,hf];exact GI _ O)) hr⟩
 exact all X.outer (λ_ O=>O) I.ok.funs
def Inv.stack(I:d!):s.heap.FunFrames X.base X.stack:=by
 obtain e|⟨e,hf⟩:=I.ok.stk
 .rw[e];exact I.funs
 .rw[e];obtain⟨m,hn,_⟩:=I.loc;refine .cons (by rw[I.ok.kind];decide) hf hn ?_ I.funs;exact Heap.get?_none_of_le (HR I.ok.bsz I.ok.above)
def Inv.stkSub(I:d!):∀b∈frs X.stack,b∈X.env.locals::X.fs:=λb O=>by
 obtain e|⟨e,hf⟩:=I.ok.stk
 .rw[e]at O;exact GI _ O
 .rw[e]at O;unfold frs at O;rw[PU,hf]at O;exact O
def Inv.stkFree(I:d!):∀b∈frs X.stack,H b=none:=λb O=>by
 obtain e|O:=GJ.mp (I.stkSub b O)
 .rw[e];exact I.free
 .obtain⟨_,o,ho,_⟩:=I.ok.funs.mem O;exact I.base.free b o ho (I.ok.frf b O) λz=>I.ok.exfs b z O
def Inv.step{g':qE_}{t':Nat}{d':Drawn}{ch:aq!}(I:d!)
  (il:∀b∈ch,hU_/\b≠X.env.locals/\hV!/\∀p∈X.pn++J,p.1≠b)
  (keep:∀b o,b≠X.env.locals->b∉X.fs->b∉ch->s.heap.get? b=some o->H b=none->h'.get? b=some o)
  (slot:∀b o,b≠X.env.locals->b∈X.fs->b∉ch->s.heap.get? b=some o->H b=none->∃sl,h'.get? b=some {o with slots:=sl})(free:∀b o,b∉ch->s.heap.get? b=some o->H b=none->H' b=none)
  (there:∀b o,b∉ch->s.heap.get? b=some o->∃o',h'.get? b=some o')
  (tups:qq!)(frzs:∀b o u,H b=some fR_->H' b=some fR_)(tbls:∀b ps,H b=some (.tbl ps)->∃pe,H' b=some qv_)
  (ns:∀m,s.heap.Ns X.env.locals m->h'.Ns X.env.locals m)(hok:ly!)(hg:AllBare g'):
  Inv X J Z H' {s with heap:=h',gens:=g',drawn:=d',toks:=t'}:=by
 have RX:∀b o,X.s₀.heap.get? b=some o->b≠X.env.locals:=λb o e=>IA qH_;have va:∀b o,X.s₀.heap.get? b=some o->b∉X.ex->b∉ch:=λb o e L O=>by
  obtain z|z:=(il b O).1
  .exact L z
  .exact absurd (HH cS! z) dB!
 have RY:∀x c,X.env.cells.lookup x=some c->∀v,s.heap.IsCell c v->h'.IsCell c v:=λx c e v ⟨o,ho,hd⟩=>by
  have qz:c∉ch:=λz=>(il c z).2.2.1 x c e rfl;by_cases hc:c∈X.fs
  .obtain⟨sl,q⟩:=slot c o (I.cne x c e) hc qz ho ly_;exact⟨_,q,hd⟩
  .exact⟨o,keep c o (I.cne x c e) hc qz ho ly_,hd⟩
 refine⟨I.ok,I.os,hg,⟨hV_,hV_,λb o e n L=>?_,qK!,λb xs e=>tups b xs (I.base.tups b xs e),λb o xs e=>frzs b o xs (I.base.frzs b o xs e),λb ps e=>?_⟩,?_,lz!,?_,lz!,co_,hok,I.len⟩
 .exact keep b o (RX b o e) O hW! lz_ lA!
 .show"!]";obtain⟨WL,e2⟩:=slot b _ (RX b o e) O hW! e1 lA!;exact⟨WL,e2⟩
 .show"!B";exact free b o' hW! e1 lA!
 .show"!B";exact there b o' hW! e1
 .obtain⟨m1,e1⟩:=I.base.tbls b ps e;obtain⟨m2,e2⟩:=tbls b _ e1;exact⟨m1++m2,by rw[e2,Array.append_assoc]⟩
 .obtain⟨m,hn,hl⟩:=I.loc;refine⟨m,ns m hn,qL_⟩;obtain⟨u,r,l⟩:=hl i x v e1 e2 e3;refine⟨u,r,?_⟩;obtain l|⟨k,c,e,z⟩:=l
  .exact .inl l
  .exact .inr ⟨k,c,e,RY x c e _ z⟩
 .obtain⟨v,z⟩:=I.cell x c e;exact⟨v,RY x c e v z⟩
 .obtain⟨m,⟨o,_,_,ho,_⟩,_⟩:=I.loc;exact free _ o (λz=>(il _ z).2.1 rfl) ho I.free
 .obtain⟨v,o,ho,hd⟩:=I.cell x c e;exact free c o (λz=>(il c z).2.2.1 x c e rfl) ho ly_
 .show"!z";have qz:p.1∉ch:=λz=>(il p.1 z).2.2.2 p hp rfl;exact⟨keep p.1 p.2 ne nf qz e n,free p.1 p.2 qz e n,ne,nf,d⟩
def Inv.un{t':Nat}(I:d!)(u:Un X.fs [] H H' s.heap h')(hok:ly!):Inv X J Z H' {s with heap:=h',toks:=t'}:=by
 obtain⟨m,⟨o,es,ep,ho,r⟩,_⟩:=id I.loc;obtain⟨sl,hL⟩:=u.any ho I.free c_;exact I.step (g':=s.gens) (d':=s.drawn) (ch:=[]) qM! (λb o _ O _ e n=>u.keep b o e n O c_) (λb o _ O _ e n=>u.slot b o e n O c_) (λb o _ e n=>u.free b o e n c_) (λb o _ e=>u.there b o e c_) u.tups u.frzs u.tbls (λm' hm=>by
  obtain⟨o',au,bd,eh,r'⟩:=hm;rw[ho]at eh;cases eh;exact qM_) hok I.bare
def Inv.call{g':qE_}{t':Nat}{d':Drawn}{ch:aq!}(I:d!)(u:Un (frs X.stack) ch H H' s.heap h')(hok:ly!)(hg:AllBare g')
  (il:∀b∈ch,hU_/\b≠X.env.locals/\hV!/\∀p∈X.pn++J,p.1≠b):
  Inv X J Z H' {s with heap:=h',gens:=g',drawn:=d',toks:=t'}:=by
 obtain⟨m,⟨o,es,ep,ho,r⟩,_⟩:=id I.loc;obtain⟨sl,hL⟩:=u.any ho I.free λz=>(il _ z).2.1 rfl
 exact I.step (ch:=ch) il (λb o hL O hc e n=>u.keep b o e n (λz=>(GJ.mp (I.stkSub b z)).elim hL O) hc) (λb o _ _ hc e n=>u.any e n hc) (λb o hc e n=>u.free b o e n hc) (λb o hc e=>u.there b o e hc) u.tups u.frzs u.tbls (λm' hm=>by
  obtain⟨o',au,bd,eh,r'⟩:=hm;rw[ho]at eh;cases eh;exact qM_) hok hg
def Inv.turned{t':Nat}(I:d!)(k:∀b o,b≠it->s.heap.get? b=some o->h'.get? b=some o)(hn:H it=none)(hL:it≠X.env.locals)
  (B:it∈X.ex\/dB_<=it)(Y:∀x c,X.env.cells.lookup x=some c->c≠it)(h3:∀p∈X.pn++J,p.1≠it):Inv X J Z H {s with heap:=h',toks:=t'}:=by
 have pf:∀b u,H b=some u->b≠it:=λb u e z=>by rw[z,hn]at e;cases e
 refine I.step (g':=s.gens) (d':=s.drawn) (ch:=[it]) lA_ (λb o _ _ hc e _=>k b o hX! e) (λb o _ _ hc e _=>⟨o.slots,k b o hX! e⟩) hY!
  (λb o hc e=>⟨o,k b o hX! e⟩) hY_ hZ! (λb ps e=>qO!) hZ_ qO_ I.bare
 .have e:b=it:=by simpa using O
  subst e;exact⟨B,hL,Y,h3⟩
 .obtain⟨o,es,ep,ho,r⟩:=hm;exact⟨o,es,ep,k _ o (GN hL) ho,r⟩
 .refine(I.hok b u e).stay (λc v hc q=>k c v ?_ q) lr_ λ_ _ q=>q;obtain z|z:=hc
  .rw[z];exact pf b u e
  .exact pf c _ z
def Inv.tok(I:d!)(t:Nat):Inv X J Z H {s with toks:=t}:=I.un (h':=s.heap) (t':=t) Un.refl I.hok
def Inv.kept{t':Nat}(I:d!)(k:qP_):Inv X J Z H {s with heap:=h',toks:=t'}:=I.un (Un.kept k) (I.hok.kept k)
def Inv.laid{a:xh!}{o:HO}{t':Nat}(I:d!)(k:qP_)(hp:o_<=a)(new:Fj X.prog X.w cR! h' a o):
  Inv X J Z cR! {s with heap:=h',toks:=t'}:=I.un (Un.laid k hp (I.hok.fresh hp)) (I.hok.laid k hp new)
def Inv.write{x e:xh!}{o:HO}{t':Nat}(I:d!)(mu:BR (H x))(he:ls_)(k:∀b u,b≠e->s.heap.get? b=some u->h'.get? b=some u)(pb:lt!)
  (new:Fj X.prog X.w lv! h' x o):Inv X J Z lv! {s with heap:=h',toks:=t'}:=I.un (Un.write mu he k pb) (I.hok.write mu he k pb new)
def Inv.pins_of{RZ:l_}(I:d!)(h:∀p∈RZ,s.heap.get? p.1=some p.2/\H p.1=none/\p.1≠X.env.locals/\p.1∉X.fs/\∀v,p.2.data≠.cell v):Inv X RZ Z H s:=
 ⟨I.ok,I.os,I.bare,I.base,I.loc,I.cell,I.free,I.freeC,λp hp=>(GT.mp hp).elim (λz=>I.pin p h0!) (h p),I.hok,I.len⟩
def a6b{N:j_}(hN:N.Nodup){i j:Nat}{x:Str}(a:N[i]?=some x)(b:N[j]?=some x):i=j:=by obtain⟨B,e1⟩:=HC.mp a;obtain⟨Y,e2⟩:=HC.mp b;exact(List.getElem_inj hN).mp qQ!
def yS{M:Model}{A:xz!}{E:p!}{i:Nat}{x:Str}{v:V}{u:xL!}{Q:cS_}(I:d!)(hN:br!)(hi:ah_)(L:br_)(r:bs!)
  (h:∀s',Inv X J ew! H s'->(∃a,Heap.SameBut a s.heap s'.heap/\(a=X.env.locals\/X.env.cells.lookup x=some a))->Q () s')(hf:X.fn x=true\/X.env.scope.names.lookup x=some .local:=by first|exact .inl rfl|exact .inr rfl|assumption):wpAny M A qR! Q E s:=by
 obtain⟨m,hn,hl⟩:=id I.loc;have WM:(lw_==.class||(lw_==.module&&X.env.locals != X.env.globals))=false:=by rw[I.ok.kind];rfl
 have SA:i<fS_:=by rw[I.len];exact(HC.mp hi).1
 have cne:=I.cne;have SC:∀{a:xh!} {h':Heap},(∃o,s.heap.get? a=some o/\H a=none)->Heap.SameBut a s.heap h'->Nz X.prog X.w H h':=λ{a h'} ha hs b ob e=>by
  obtain⟨_,_,g9⟩:=ha;refine(I.hok b ob e).stay (λc w' hc q=>(hs.2 c ?_).trans q) lr_ λ_ _ q=>q;rintro rfl;obtain rfl|hc:=hc
  .rw[g9]at e;cases e
  .rw[g9]at hc;cases hc
 obtain hk|hk:=L
 .refine wpAny_storeName_local hk hn (λh' vb hs=>?_) WM;obtain⟨oL,_,_,la,_⟩:=id hn;refine h _ ⟨I.ok,I.os,I.bare,qS!,⟨_,vb,qS_⟩,λy c e=>?_,I.free,I.freeC,co_,SC ⟨oL,la,I.free⟩ hs,qT!⟩ ⟨_,hs,cT!⟩
  .exact(lB_).trans lz_
  .show"!]";exact⟨sl,(lB_).trans e1⟩
  .show"!B";exact⟨o',(lB_).trans e1⟩
  .by_cases hj:j=i
   .show"#+";exact⟨u,r,.inl ⟨hk,H!⟩⟩
   .rw[HX (GN hj)]at e2;obtain⟨u',r',q⟩:=hl j y v' e1 e2 e3;refine qT_;obtain⟨k,e⟩|⟨k,c,e,z⟩:=q
    .refine .inl ⟨k,?_⟩;have:y≠x:=λe=>hj (a6b hN e1 (e▸hi));simp[this,e]
    .exact .inr ⟨k,c,e,qU_⟩
  .obtain⟨w',z⟩:=I.cell y c e;exact⟨w',qU_⟩
  .show"!z";exact⟨(hs.2 p.1 ne).trans e,n,ne,nf,d⟩
 .have xf:X.fn x=true:=by
   obtain z|z:=hf
   .exact z
   .rw[z]at hk;cases hk
  obtain⟨c,hc⟩:=I.ok.has x (.inl hk);obtain⟨w',z⟩:=I.cell x c hc;refine wpAny_storeName_cell I.ok.kind hk hc z (λh' a7 hs=>?_);obtain⟨oc,SD,WN⟩:=id z;refine h {s with heap:=h'} ⟨I.ok,I.os,I.bare,qS!,⟨m,hn.sameBut hs (GN (cne x c hc)),qS_⟩,λy c' e=>?_,I.free,I.freeC,co_,SC ⟨oc,SD,I.freeC x c hc⟩ hs,qT!⟩ ⟨c,hs,.inr hc⟩
  .exact(lE!).trans lz_
  .show"!]";exact⟨sl,(lE!).trans e1⟩
  .show"!B";exact⟨o',(lE!).trans e1⟩
  .by_cases hj:j=i
   .show"#+";exact⟨u,r,.inr ⟨.inl hk,c,hc,a7⟩⟩
   .rw[HX (GN hj)]at e2;obtain⟨u',r',q⟩:=hl j y v' e1 e2 e3;refine qT_;obtain q|⟨k,c',e,z'⟩:=q
    .exact .inl q
    .refine .inr ⟨k,c',e,z'.sameBut hs ?_⟩;rintro rfl;exact hj (a6b hN e1 (I.ok.inj _ _ _ e hc▸hi))
  .by_cases jz:c'=c
   .subst jz;exact⟨_,a7⟩
   .obtain⟨w2,z2⟩:=I.cell y c' e;exact⟨w2,z2.sameBut hs jz⟩
  .show"!z";refine⟨(hs.2 p.1 ?_).trans e,n,ne,nf,d⟩;intro q;rw[q,SD]at e;have q':oc=p.2:=IG e;exact d w' (by rw[<-q'];exact WN)
def uS{M:Model}{A:xz!}{E:p!}{i:Nat}{x:Str}{v:V}{u:xL!}{Q:cS_}(I:d!)(hN:br!)(hi:ah_)(L:br_)(r:bs!)
  (h:∀s',Inv X J ew! H s'->Q () s')(hf:X.fn x=true\/X.env.scope.names.lookup x=some .local:=by first|exact .inl rfl|exact .inr rfl|assumption):wpAny M A qR! Q E s:=
 yS I hN hi L r (λs' I' _=>h s' I') hf
def Inv.call'{s':zS!}{ch:aq!}(I:d!)(ho:s'.os=s.os)(u:Un (frs X.stack) ch H H' s.heap s'.heap)(hok:Nz X.prog X.w H' s'.heap)(hg:AllBare s'.gens)
  (il:∀b∈ch,hU_/\b≠X.env.locals/\hV!/\∀p∈X.pn++J,p.1≠b):Inv X J Z H' s':=by
 obtain⟨h',g',d',t',o'⟩:=s';have e:o'=s.os:=ho;subst e;exact I.call (g':=g') (t':=t') (d':=d') u hok hg il
end
abbrev XK:=Value->Option Addr->Hp->Prop
abbrev St:=List (Option V)
abbrev VK:=V->Hp->Prop
abbrev TE:=St->Hp->VK->Prop
abbrev TT:=St->Hp->uW_->Prop
abbrev TA:=St->Hp->(List V->Hp->Prop)->Prop
structure Uv where
 nx:St->Hp->Prop
 rt:VK
 bk:St->Hp->Prop:=λ_ _=>False
 ct:St->Hp->Prop:=λ_ _=>False
abbrev TS:=Uv->St->Hp->Prop
inductive EP(X:Cx)(J:l_)(Z:St)(Q:VK)(u:xL!)(s':zS!):Prop
 |mk (v:V) (H':Hp) (I:lG!) (r:bs!) (q:Q v H'):EP X J Z Q u s'
inductive TP(X:Cx)(J:l_)(Z:St)(Q:dD_)(b:Bool)(s':zS!):Prop
 |mk (H':Hp) (I:lG!) (q:Q b H'):TP X J Z Q b s'
inductive AP(X:Cx)(J:l_)(Z:St)(Q:cU!)(us:h_)(s':zS!):Prop
 |mk (vs:k!) (H':Hp) (I:lG!) (r:ex_) (q:Q vs H'):AP X J Z Q us s'
def SP(X:Cx)(J:l_)(D:Uv)(f:Flow)(s':zS!):Prop:=
 match f with
 |.next=>∃hx H',Inv X J hx H' s'/\D.nx hx H'
 |.brk=>∃hx H',Inv X J hx H' s'/\D.bk hx H'
 |.cont=>∃hx H',Inv X J hx H' s'/\D.ct hx H'
 |.ret u=>∃v hx H',Inv X J hx H' s'/\Bp v u/\D.rt v H'
def PE(X:Cx)(e:Expr)(t:TE):Prop:=
 ∀(J:l_) (s:zS!) (Z:St) (H:Hp) (Q:VK),Inv X J Z H s->t Z H Q->wpAny e_ X.A ex! aJ! X.xe s
def PT(X:Cx)(e:Expr)(t:TT):Prop:=
 ∀(J:l_) (s:zS!) (Z:St) (H:Hp) (Q:dD_),Inv X J Z H s->t Z H Q->wpAny e_ X.A (isTrue e X.env ex!) h3_ X.xe s
def PW(X:Cx)(e:Expr)(t:TT):Prop:=
 ∀(dm:Sem Value) (J:l_) (s:zS!) (Z:St) (H:Hp) (Q:dD_),Inv X J Z H s->t Z H Q->wpAny e_ X.A (isTrue e X.env dm) h3_ X.xe s
def PW.pt{X:Cx}{e:Expr}{t:TT}(h:PW X e t):PT X e t:=h _
def PA(X:Cx)(es:bs_)(t:TA):Prop:=
 ∀(pos:Pos) (J:l_) (s:zS!) (Z:St) (H:Hp) (Q:cU!),Inv X J Z H s->t Z H Q->wpAny e_ X.A (spliced q2_) (AP X J Z Q) X.xe s
def PS(X:Cx)(st:Stmt)(t:TS):Prop:=
 ∀(J:l_) (s:zS!) (Z:St) (H:Hp) (D:Uv),Inv X J Z H s->t D Z H->wpAny e_ X.A (exec st X.env) (SP X J D) X.xe s
def Tz(X:Cx)(st:bG_)(t:TS):Prop:=
 ∀(J:l_) (s:zS!) (Z:St) (H:Hp) (D:Uv),Inv X J Z H s->t D Z H->wpAny e_ X.A (execs st X.env) (SP X J D) X.xe s
def cZ{α:Type}{t:Sem α}{Q Q':q3!}{M:Model}{A:xz!}{E:p!}{s:zS!}(h:wpAny M A t Q E s)(hQ:∀a s,Q a s->Q' a s):wpAny M A t Q' E s:=JJ h hQ λ_ _ x=>x
end L2
namespace L2
open PySem PySem.Spec PyProof.Rows
section
variable{X:Cx}
def bin{a b:Expr}{ta tb:TE}(ha:aZ!)(O:cq!){J:l_}{s:zS!}{Z:St}{H:Hp}{R:va!}(I:d!)(h:q4_)
  {α:Type}{Q:q3!}{f:Value->Value->Sem α}
  (hf:q5_):
  wpAny e_ X.A lI! q7! X.xe s:=by
 show"!9"
def DB(i:Nat):TE:=λZ H Q=>∃v,Z[i]?=some dC!/\Q v H
nonrec def tC(v:V):TE:=λ_ H Q=>Q v H
def nQ{i:Nat}{x:Str}{pos:Pos}(hN:ah_)(hv:cU_)(hd:F!:=by decide)(bv:cV!:=by decide):PE X cV_ (DB i):=by
 intro J s Z H Q I h;obtain⟨v,e,h⟩:=h;obtain⟨m,hn,hl⟩:=I.loc;obtain⟨u,r,l⟩:=hl i x v hN e hv;have fin:EP X J Z Q u s:=lJ!;obtain⟨hk,hm⟩|⟨hk,c,hc,b8⟩:=l
 .exact wpAny_Name (wpAny_loadName_local I.ok.kind hk hn hm fin) hd
 .obtain hk|hk:=hk
  .exact wpAny_Name (wpAny_loadName_cell I.ok.kind hk hc b8 fin) hd
  .exact wpAny_Name (wpAny_loadName_free I.ok.kind hk hc b8 fin bv) hd
def c6x {i j pos}:PE X ra! (tC bb_):=λ_ _ _ H _ I h=>wpAny_Constant_int ⟨bc_,H,aZ_,H_,h⟩
def d0r {b j pos}:PE X (.Constant nA_ j pos) (tC bI!):=λ_ _ _ H _ I h=>Constant_bool ⟨.bl b,H,I,rfl,h⟩
def c6w {j pos}:PE X rb! (tC .non):=λ_ _ _ H _ I h=>Constant_none ⟨.non,H,I,rfl,h⟩
def b8a {x j pos}:PE X (.Constant dE! j pos) (tC dE!):=λ_ _ _ H _ I h=>OM ⟨.str x,H,aZ_,H_,h⟩
def Gl(X:Cx)(x:Str):Prop:=X.env.kindOf x=some .globalImplicit
def jX{E:p!}{J:l_}{s:zS!}{Z:St}{H:Hp}{x:Str}{u:xL!}{pos:Pos}{Q:p!}(I:d!)(hg:R!)(hm:X.mg x=some u)(h:Q u s)
  (hd:F!:=by decide):wpAny e_ X.A vm! Q E s:=
 Calls.Name_function_global I.ok.kind hg (Calls.loadGlobal_global rc! hm h) hd
def iV{E:p!}{J:l_}{s:zS!}{Z:St}{H:Hp}{x:Str}{u:xL!}{pos:Pos}{Q:p!}(I:d!)(hg:R!)(hm:cr!)(hv:rc_)(h:Q u s)
  (hn:cr_:=by decide)(hd:F!:=by decide):wpAny e_ X.A vm! Q E s:=by
 obtain⟨mb,B,Y⟩:=I.mod.blt;exact Calls.Name_function_global I.ok.kind hg (Calls.loadGlobal_builtin rc! hm (by rw[I.ok.blt];exact B.keeps I.bk) ((Y x hn).trans hv) h) hd
def c2y{x:Str}{v:V}{u:xL!}{pos:Pos}(hg:R!)(hm:X.mg x=some u)(r:bs!)(hd:F!:=by decide):PE X cV_ (tC v):=
 λ_ _ _ H _ I h=>jX I hg hm lJ! hd
def c2z{x:Str}{v:V}{u:xL!}{pos:Pos}(hg:R!)(hm:cr!)(hv:rc_)(r:bs!)(hn:cr_:=by decide)(hd:F!:=by decide):PE X cV_ (tC v):=
 λ_ _ _ H _ I h=>iV I hg hm hv lJ! hn hd
variable{a b:Expr}{ta tb:TE}{pos:Pos}
def PC(X:Cx)(op:CmpOp)(a b:Expr)(t:TE):Prop:=
 ∀(J:l_) (s:zS!) (Z:St) (H:Hp) (Q:VK),Inv X J Z H s->t Z H Q->
  wpAny e_ X.A lI! (λv aj=>wpAny e_ X.A vc! (λu al=>wpAny e_ X.A (compareOp op v u) aJ! X.xe al) X.xe aj) X.xe s
def b8u(b:Expr){op:CmpOp}(h:op≠.In)(Y:op≠.NotIn):behindInMarks op b=false:=by
 have e1:rf_=false:=by cases op<;>first|rfl|exact absurd rfl h
 have e2:rg_=false:=by cases op<;>first|rfl|exact absurd rfl Y
 cases b<;>simp[behindInMarks,e1,e2]
nonrec def tB(t:TE):TT:=λZ H Q=>t Z H λx H1=>∃c,x=.bl c/\Q c H1
def d2f{op:CmpOp}{t:TE}(h:PC X op a b t)(B:dE_:=by first|exact b8u _ c! c!|rfl):PT X dF! (tB t):=by intro J s Z H Q I hw;refine PY (cZ lN_ λv s1 B=>cZ B λu s2 Y=>cZ Y λc s3 ⟨x,H1,I1,r1,q1⟩=>?_) B;obtain⟨d,rfl,q⟩:=q1;cases r1;exact IH ⟨H1,I1,q⟩
def b7m{e:Expr}{t:TE}(h:h7_)(he:h8!:=by intro _;rfl):PT X e (tB t):=by intro J s Z H Q I hw;refine isTrue_plain (cZ lN_ λv s1 ⟨x,H1,I1,r1,q1⟩=>?_) (he _);obtain⟨d,rfl,q⟩:=q1;cases r1;exact IH ⟨H1,I1,q⟩
variable{tA vc:TT}{rest:List Expr}
def DR(t u:TT):TT:=λZ H Q=>t Z H λc H1=>if c=true then u Z H1 Q else Q false H1
def FQ(t u:TT):TT:=λZ H Q=>t Z H λc H1=>if c=true then Q true H1 else u Z H1 Q
def DJ(t:TT):TT:=λZ H Q=>t Z H λc H1=>Q (!c) H1
def b1p(ha:f1!):PW X lQ! tA:=by
 intro wh J s Z H Q I h;refine isTrue_and rj_;cases c with
 |true=>exact isTrue_and_nil e
 |false=>exact e
def b7f(ha:f1!):PW X lQ_ tA:=by
 intro wh J s Z H Q I h;refine isTrue_or rj_;cases c with
 |false=>exact isTrue_or_nil e
 |true=>exact e
def b7g(ha:f1!)(O:PW X ey_ vc):PW X ez_ (DR tA vc):=by
 intro wh J s Z H Q I h;refine isTrue_and rl!;cases c with
 |true=>exact O wh J s1 Z H1 Q I1 q1
 |false=>exact rm_
def c5n(ha:f1!)(O:PW X eA! vc):PW X eA_ (FQ tA vc):=by
 intro wh J s Z H Q I h;refine isTrue_or rl!;cases c with
 |true=>exact rm_
 |false=>exact O wh J s1 Z H1 Q I1 q1
def b7o(ha:f1!):PT X eB! (DJ tA):=by intro J s Z H Q I h;exact isTrue_not (cZ (ha J s Z H (λc H1=>Q (!c) H1) I h) λ_ _ ⟨H2,I2,q⟩=>⟨H2,I2,q⟩)
def AQ(ta tb:TE):TE:=λZ H Q=>ta Z H λx H1=>∃c,x=.bl c/\if c=true then tb Z H1 Q else Q as_ H1
def DH(ta tb:TE):TE:=λZ H Q=>ta Z H λx H1=>∃c,x=.bl c/\if c=true then Q D_ H1 else tb Z H1 Q
def AK(ta:TE):TE:=λZ H Q=>ta Z H λx H1=>∃c,x=.bl c/\Q (.bl (!c)) H1
def b8b {op}{t:TE}(h:PE X a t):PE X lS! t:=λJ s Z H Q I hw=>BoolOp_one rn_
def b8h(ha:aZ!)(O:PE X ey_ tb):PE X ez_ (AQ ta tb):=by
 intro J s Z H Q I h;refine BoolOp_and lT!;obtain⟨c,rfl,q1⟩:=q1;cases r1;refine IH ?_;cases c with
 |true=>exact O J s1 Z H1 Q I1 q1
 |false=>exact⟨.bl false,H1,I1,rfl,q1⟩
def c5p(ha:aZ!)(O:PE X eA! tb):PE X eA_ (DH ta tb):=by
 intro J s Z H Q I h;refine BoolOp_or lT!;obtain⟨c,rfl,q1⟩:=q1;cases r1;refine IH ?_;cases c with
 |false=>exact O J s1 Z H1 Q I1 q1
 |true=>exact⟨h8_,H1,I1,rfl,q1⟩
def b8c(ha:aZ!):PE X eB! (AK ta):=by intro J s Z H Q I h;refine UnaryOp_ lT!;obtain⟨c,rfl,q1⟩:=q1;cases r1;exact not_of (IH ⟨.bl (!c),H1,I1,rfl,q1⟩)
def FR(t:TT)(ta tb:TE):TE:=λZ H Q=>t Z H λc H1=>if c=true then ta Z H1 Q else tb Z H1 Q
def a5s{c:Expr}(hc:PT X c tA)(ha:aZ!)(O:cq!):PE X lT_ (FR tA ta tb):=by
 intro J s Z H Q I h;refine wpAny_IfExp ro!;cases d with
 |true=>exact ha J s1 Z H1 Q I1 q1
 |false=>exact O J s1 Z H1 Q I1 q1
end
end L2
namespace L2
open PySem PySem.Spec PyProof.Rows
def Et(K:zT!)(H:Hp)(a:xh!)(xs:k!):Prop:=
 Rd H a J_\/
  ∃(o:Obj) (its:aa!) (n:Nat),K.lookup a=some o/\o.cls=.type "list"/\o.dict=none/\o.data=.seq its n/\its.size<=sizeLine/\Ba xs h9_
def Fz(K:zT!)(H:Hp)(a:xh!)(xs:k!):Prop:=
 Rd H a bF!\/
  ∃(o:Obj) (its:aa!) (n:Nat),K.lookup a=some o/\o.cls=.type "tuple"/\o.data=.seq its n/\its.size<=sizeLine/\Ba xs h9_
def EI:Value->Option V
 |.none=>some .non
 |.bool b=>some bI!
 |.int i _=>some bb_
 |.str x _=>some dE!
 |.bytes b _=>some (.byt b)
 |.float b _=>some (.flt b)
 |.ref a=>some aa_
 |.type n=>some (.ty n)
 |_=>none
def Bp.abs{x:V}{u:xL!}(r:Bp x u):EI u=some x:=by
 cases x with
 |non=>cases r;rfl
 |bl _=>cases r;rfl
 |int _=>obtain⟨t,rfl⟩:=r;rfl
 |str _=>obtain⟨t,rfl⟩:=r;rfl
 |byt _=>obtain⟨t,rfl⟩:=r;rfl
 |flt _=>obtain⟨t,rfl⟩:=r;rfl
 |ref _=>cases r;rfl
 |ty _=>cases r;rfl
def Bp.inj{x y:V}{u:xL!}(r:Bp x u)(q:Bp y u):x=y:=IG (r.abs.symm.trans q.abs)
def Ba.inj:∀{xs ys:k!} {us:h_},Ba xs us->Ba ys us->xs=ys
 |_,_,_,.nil,.nil=>rfl
 |_,_,_,.cons r t,.cons r' t'=>by rw[r.inj r',Ba.inj t t']
section
variable{X:Cx}{J:List (Addr×Obj)}{Z:St}{H:Hp}{s:zS!}{a:xh!}{xs ys:List V}
def Et.of{K:zT!}(h:H a=some J_):Et K H a xs:=.inl ia_
def Fz.of{K:zT!}(h:H a=some bF!):Fz K H a xs:=.inl ia_
def Inv.list(I:d!)(h:Et X.K H a xs):∃its:List Value,Ba xs its/\PlainL s.heap a aQ!/\i_<=sizeLine:=by
 obtain h|⟨o,its,n,hk,hc,hd,hs,hz,r⟩:=h
 .obtain⟨z,its,n,r,e⟩:=h.ok I.hok;exact⟨its,r,⟨_,n,e,rfl,rfl,rfl⟩,z⟩
 .refine⟨h9_,r,⟨o,n,I.kIn a o hk,hc,hd,rp_⟩,?_⟩;have e:=aB!;simp only[IR]at e;omega
def Inv.tuple(I:d!)(h:Fz X.K H a xs):∃its:List Value,Ba xs its/\IsTup s.heap a aQ!/\i_<=sizeLine:=by
 obtain h|⟨o,its,n,hk,hc,hs,hz,r⟩:=h
 .obtain⟨z,its,r,p⟩:=h.ok I.hok;exact⟨its,r,p,z⟩
 .refine⟨h9_,r,⟨o,I.kIn a o hk,hc,n,rp_⟩,?_⟩;have e:=aB!;simp only[IR]at e;omega
def Inv.list_inj(I:d!)(h:Et X.K H a xs)(h':Et X.K H a ys):xs=ys:=by
 obtain⟨its,r,⟨o,n,e,_,_,d⟩,_⟩:=I.list h;obtain⟨its',r',⟨o',n',e',_,_,d'⟩,_⟩:=I.list h';rw[e]at e';cases e';rw[d]at d';injection d' with d1 _
 have:its=its':=by simpa using congrArg Array.toList d1
 subst this;exact r.inj r'
def Inv.tuple_inj(I:d!)(h:Fz X.K H a xs)(h':Fz X.K H a ys):xs=ys:=by
 obtain⟨its,r,⟨o,e,_,n,d⟩,_⟩:=I.tuple h;obtain⟨its',r',⟨o',e',_,n',d'⟩,_⟩:=I.tuple h';rw[e]at e';cases e';rw[d]at d';injection d' with d1 _
 have:its=its':=by simpa using congrArg Array.toList d1
 subst this;exact r.inj r'
end
abbrev Cx.wish(X:Cx)(E:p!):Cx:={X with xe:=E}
abbrev Cx.nox(X:Cx):Cx:=X.wish λ_ _=>False
def Cx.Ok.wish{X:Cx}(ok:X.Ok)(E:p!):(f2_).Ok:=
 rq!
def Cx.Ok.unwish{X:Cx}{E:p!}(ok:(f2_).Ok):X.Ok:=
 rq!
section
variable{X:Cx}{J:List (Addr×Obj)}{Z:St}{H:Hp}{s:zS!}{E:Value->Shared->Prop}
def Inv.wish(I:d!)(E:p!):Inv f2_ J Z H s:=⟨I.ok.wish E,I.os,I.bare,I.base,I.loc,I.cell,I.free,I.freeC,I.pin,I.hok,I.len⟩
def Inv.unwish(I:Inv f2_ J Z H s):Inv X J Z H s:=⟨I.ok.unwish,I.os,I.bare,I.base,I.loc,I.cell,I.free,I.freeC,I.pin,I.hok,I.len⟩
def SP.unwish{D:Uv}{f:Flow}{s':zS!}(h:SP f2_ J D f s'):SP X J D f s':=by
 cases f with
 |next=>obtain⟨hx,H',I,q⟩:=h;exact lU_
 |brk=>obtain⟨hx,H',I,q⟩:=h;exact lU_
 |cont=>obtain⟨hx,H',I,q⟩:=h;exact lU_
 |ret u=>obtain⟨v,hx,H',I,r,q⟩:=h;exact⟨v,hx,H',I.unwish,r,q⟩
def Tz.nox{st:bG_}{t:TS}(h:Tz X.nox st t):Tz X st t:=λJ s Z H D I hw=>
 JJ (h J s Z H D (I.wish _) hw) (λ_ _ q=>q.unwish) λ_ _ z=>False.elim z
end
section
variable{X:Cx}{st:Stmt}{rest:List Stmt}{t u:TS}{e:Expr}{te:TE}{pos:Pos}
def AL:TS:=λD Z H=>D.nx Z H
def DD(t u:TS):TS:=λD Z H=>t {D with nx:=u D} Z H
def b1t:Tz X [] AL:=λ_ _ Z H _ I h=>QA ⟨Z,H,I,h⟩
def a5o(B:ib_)(Y:Tz X rest u):Tz X lV_ (DD t u):=by
 intro J s Z H D I h;refine wpAny_execs_cons (cZ (B J s Z H {D with nx:=u D} I h) λf s1 q=>?_);cases f with
 |next=>
  obtain⟨hx,H',I',q⟩:=q;exact Y J s1 hx H' D I' q
 |ret v=>exact q
 |brk=>exact q
 |cont=>exact q
def b1s(B:ib_):Tz X [st] t:=by
 intro J s Z H D I h;refine wpAny_execs_cons (cZ (B J s Z H D I h) λf s1 q=>?_);cases f with
 |next=>exact QA q
 |ret v=>exact q
 |brk=>exact q
 |cont=>exact q
def Inv.quiet{J:l_}{Z:St}{H:Hp}{s:zS!}(I:d!):interactive X.env=false:=by simp[interactive,I.ok.kind]
def AM(te:TE):TS:=λD Z H=>te Z H λ_ H1=>D.nx Z H1
def tZ(he:cs!)(hs:rr_:=by rfl):PS X (.Expr e pos) (AM te):=by intro J s Z H D I h;exact wpAny_Expr_any (cZ cZ! λv s1 ⟨x,H1,I1,r1,q1⟩=>⟨Z,H1,I1,q1⟩) I.quiet hs
def DF(te:TE):TS:=λD Z H=>te Z H D.rt
def b7r(he:cs!):PS X lW! (DF te):=by intro J s Z H D I h;exact wpAny_Return_some (cZ cZ! λv s1 ⟨x,H1,I1,r1,q1⟩=>⟨x,Z,H1,I1,r1,q1⟩)
def AI:TS:=λD _ H=>D.rt .non H
def c2q:PS X ru_ AI:=λ_ _ Z H _ I h=>wpAny_Return_none ⟨.non,Z,H,I,rfl,h⟩
def DM(c:TT)(t u:TS):TS:=λD Z H=>c Z H λb H1=>if b=true then t D Z H1 else u D Z H1
def c5o{c:Expr}{a b:bG_}{tc:TT}(hc:PT X c tc)(ha:Tz X a t)(O:Tz X b u):PS X (.If c a b pos) (DM tc t u):=by
 intro J s Z H D I h;refine wpAny_If ro!;cases d with
 |true=>exact ha J s1 Z H1 D I1 q1
 |false=>exact O J s1 Z H1 D I1 q1
end
abbrev TG:=V->St->Hp->rv!->Prop
abbrev Zt:=List V->St->Hp->rv!->Prop
def PG(X:Cx)(vd:Expr)(t:TG):Prop:=
 ∀(J:l_) (s:zS!) (Z:St) (H:Hp) (v:V) (u:xL!) (Q:id!),Inv X J Z H s->Bp v u->t v Z H Q->
  wpAny e_ X.A (assign vd X.env u) rv_ X.xe s
def CQ(X:Cx)(ts:bs_)(t:Zt):Prop:=
 ∀(J:l_) (s:zS!) (Z:St) (H:Hp) (vs:k!) (us:h_) (Q:id!),Inv X J Z H s->Ba vs us->t vs Z H Q->
  wpAny e_ X.A (assignInOrder ((assignEach ts X.env).map z_) us) rv_ X.xe s
abbrev Yc:=V->V->V->Hp->lX!->Prop
def Vu(X:Cx)(t:Yc):Prop:=
 ∀(J:l_) (s:zS!) (Z:St) (H:Hp) (o i v:V) (ov iv u:xL!) (Q:Hp->Prop),Inv X J Z H s->Bp o ov->Bp i iv->Bp v u->t o i v H Q->
  wpAny e_ X.A (setItem ov iv u) (λ_ s'=>∃H',Inv X J Z H' s'/\Q H') X.xe s
abbrev CN:=V->V->Hp->VK->Prop
def FH(X:Cx)(op:Operator)(t:CN):Prop:=
 ∀(J:l_) (s:zS!) (Z:St) (H:Hp) (x y:V) (v u:xL!) (Q:VK),Inv X J Z H s->Bp x v->Bp y u->t x y H Q->
  wpAny e_ X.A (inplaceOp op v u) aJ! X.xe s
section
variable{X:Cx}{pos:Pos}
def Nw(i:Nat):TG:=λv Z H Q=>Q ew! H
def bD{i:Nat}{x:Str}(hN:br!)(hi:ah_)(L:br_)(hf:X.fn x=true\/X.env.scope.names.lookup x=some .local:=by first|exact .inl rfl|exact .inr rfl|assumption):PG X cV_ eB_:=by intro J s Z H v u Q I r h;exact wpAny_assign_Name (uS I hN hi L r (λs' I'=>⟨_,H,I',h⟩) hf)
def Zq:Zt:=λvs Z H Q=>vs=[]/\Q Z H
def Tt(t:TG)(u:Zt):Zt:=λvs Z H Q=>∃v r,vs=v::r/\t v Z H λhx H'=>u r hx H' Q
def uA:CQ X [] Zq:=by intro J s Z H vs us Q I r h;obtain⟨e,h⟩:=h;subst e;cases r;exact assignInOrder_nil ⟨Z,H,I,h⟩
def gE{e:Expr}{es:bs_}{t:TG}{u:Zt}(B:PG X e t)(Y:CQ X es u)
  (hs:(assignEach aK! X.env).map z_=assign e X.env::(lX_).map z_:=by rfl):CQ X aK! (Tt t u):=by
 intro J s Z H vs us Q I r h;obtain⟨v,vr,e1,h⟩:=h;subst e1;cases r with
 |cons r rr=>
  rw[hs];refine assignInOrder_cons (cZ (B J s Z H _ _ _ I r h) λ_ s1 ⟨dq,H1,I1,q1⟩=>?_);exact Y J s1 dq H1 _ _ Q I1 rr q1
def Zp(K:zT!)(n:Nat)(t:Zt):TG:=λv Z H Q=>∃a xs,v=.ref a/\Fz K H a xs/\i_=n/\t xs Z H Q
def a1i{es:bs_}{k:Nat}{t:Zt}{n:Nat}(hc:bu!)(h:CQ X es t)
  (hn:(lX_).length=n:=by rfl)(bz:(lX_).findIdx? b!=none:=by rfl):PG X (.Tuple es k pos) (Zp X.K n t):=by
 intro J s Z H v u Q I r hw;obtain⟨a,xs,e1,hq,hl,hw⟩:=hw;subst e1;cases r;obtain⟨its,rv,ht,hz⟩:=I.tuple hq;refine assign_Tuple_tuple bu_ ht (by simp[hn,<-hl,rv.length]) bz λh' L=>?_;have I1:Inv X J Z H {s with heap:=h'}:=I.kept (t':=s.toks) λb o e=>L b o (IA cS!) e;exact h J _ Z H xs _ Q I1 (by simpa using rv) hw
def EH(to ti:TE)(t:Yc):TG:=λv Z H Q=>to Z H λo H1=>ti Z H1 λi H2=>t o i v H2 λH3=>Q Z H3
def b7x{o:Expr}{to ti:TE}{t:Yc}(ho:lY!)(hi:PE X i ti)(hs:Vu X t)
  (ha:∀v,assign ry! X.env v=(do
   let ov <-holding [v] cZ_
   let iv <-holding [v,ov] rz_
   standAt pos
   holding eC! lY_
   release eC! []):=by intro _;rfl):PG X ry! (EH to ti t):=by
 intro J s Z H v u Q I r h;rw[ha];refine GF (IJ (cZ rz! λov s1 ⟨x,H1,I1,r1,q1⟩=>?_));refine GF (IJ (cZ (hi J s1 Z H1 _ I1 q1) λiv s2 ⟨y,H2,I2,r2,q2⟩=>?_));refine GF (PD (GF (IJ (cZ (hs J s2 Z H2 x y v ov iv u _ I2 r1 r2 r q2) λ_ s3 ⟨H3,I3,q3⟩=>?_))));exact wpAny_release ⟨Z,H3,I3,q3⟩
def Zd(te:TE)(g:TG):TS:=λD Z H=>te Z H λx H1=>g x Z H1 D.nx
def b7t{tg e:Expr}{te:TE}{g:TG}(he:cs!)(hg:l0!)(hs:swapsWithSole [tg] e pos.line X.env=pure false:=by rfl)(hw:swappedStores [tg] e X.env=pure none:=by rfl)
  (B:(assignEach [tg] X.env).map z_=[assign tg X.env]:=by rfl):PS X (.Assign [tg] e pos) (Zd te g):=by
 intro J s Z H D I h;refine wpAny_Assign_stores rA_ hs hw;rw[B];exact cZ (hg J s1 Z H1 x v _ I1 r1 q1) λ_ s2 q=>q
def a9h{i:Nat}{x:Str}{e:Expr}{te:TE}{ic:Pos}(hN:br!)(hi:ah_)(L:br_)(he:cs!)(hs:swapsWith e (some ig!) pos.line X.env=pure false:=by rfl)(hf:X.fn x=true\/X.env.scope.names.lookup x=some .local:=by first|exact .inl rfl|exact .inr rfl|assumption):
  PS X (.Assign [.Name x ic] e pos) (Zd te eB_):=by
 intro J s Z H D I h;refine wpAny_Assign_Name (cZ cZ! λv s1 ⟨y,H1,I1,r1,q1⟩=>?_) hs;exact uS I1 hN hi L r1 (λs2 I2=>⟨_,H1,I2,q1⟩) hf
def DQ(i:Nat)(te:TE)(ti:CN):TS:=λD Z H=>∃x,Z[i]?=some (some x)/\te Z H λy H1=>ti x y H1 λz H2=>D.nx (Z.set i (some z)) H2
def c6t{i:Nat}{x:Str}{e:Expr}{te:TE}{op:Operator}{ti:CN}{ic:Pos}(hN:br!)(hi:ah_)(L:br_)(he:cs!)(ho:FH X op ti)(hf:X.fn x=true\/X.env.scope.names.lookup x=some .local:=by first|exact .inl rfl|exact .inr rfl|assumption):
  PS X (.AugAssign ig! op e pos) (DQ i te ti):=by
 intro J s Z H D I h;obtain⟨v,e1,h⟩:=h;obtain⟨m,hn,hl⟩:=I.loc;have WO:Ww X.env.scope x:=by obtain k|k:=L;exact .inl k;exact .inr (.inl k)
 obtain⟨u,r,l⟩:=hl i x v hi e1 WO;refine wpAny_AugAssign_Name ?_;have go:wpAny e_ X.A ex! (λw al=>wpAny e_ X.A (inplaceOp op u w) (λr dr=>wpAny e_ X.A (storeName X.env x r) (λ_=>SP X J D .next) X.xe dr) X.xe al) X.xe s:=by
  refine cZ cZ! λw s1 ⟨y,H1,I1,r1,q1⟩=>?_;refine cZ (ho J s1 Z H1 v y u w _ I1 r r1 q1) λz s2 ⟨zv,H2,I2,r2,q2⟩=>?_;exact uS I2 hN hi L r2 (λs3 I3=>⟨_,H2,I3,q2⟩) hf
 obtain⟨hk,hm⟩|⟨hk,c,hc,b8⟩:=l
 .exact wpAny_loadName_local I.ok.kind hk hn hm go
 .obtain hk|hk:=hk
  .exact wpAny_loadName_cell I.ok.kind hk hc b8 go
  .obtain k|k:=L
   .show"!i"
   .show"!i"
def FT(f:l1_):CN:=λx y H Q=>∃i j,x=.int i/\y=.int j/\Q (.int (f i j)) H
def c8k:FH X .Add (FT λi j=>i+j):=by intro J s Z H x y v u Q I r1 r2 h;obtain⟨i,j,e1,e2,q⟩:=h;subst e1;subst e2;obtain⟨t,rfl⟩:=r1;obtain⟨t',rfl⟩:=r2;exact iadd_int ih!
def Zb(c:TT)(tb:TS):TS:=λD Z H=>∃W:Nat->St->Hp->Prop,(∃m,W m Z H)/\∀m Z H,W m Z H->
 c Z H λb H1=>if b=true then∃N:St->Hp->Prop,(∀hx H',N hx H'->∃m',m'<m/\W m' hx H')/\tb {D with nx:=N,ct:=N,bk:=D.nx} Z H1 else D.nx Z H1
def b7q{c:Expr}{body:bG_}{tc:TT}{tb:TS}(hp:f5!)(hc:PT X c tc)(O:Tz X body tb):PS X rC! (Zb tc tb):=by
 intro J s Z H D I h;obtain⟨W,⟨m0,w0⟩,turn⟩:=h;refine wpAny_While (codeAny_whileLoop (λn s'=>∃hx H',Inv X J hx H' s'/\W n hx H') ?_ m0 ⟨Z,H,I,w0⟩);rintro n s1 ⟨dq,H1,I1,w1⟩;refine LZ hp (cZ (hc J s1 dq H1 _ I1 (turn n dq H1 w1)) λb s2 ⟨H2,I2,q2⟩=>?_);cases b with
 |true=>
  obtain⟨N,hN,q2⟩:=q2;rw[l!];refine LZ hp (cZ (O J s2 dq H2 _ I2 q2) λf s3 q3=>?_);cases f with
  |next=>
   show"!b"
  |cont=>
   show"!b"
  |brk=>exact q3
  |ret v=>exact q3
 |false=>
  rw[GL HF];exact QA ⟨dq,H2,I2,q2⟩
end
structure It where
 go:Nat->Hp->Prop
 yld:Nat->Hp->V->Hp->Prop
 stop:Nat->Hp->Prop
def Iw(X:Cx)(J:l_)(H:Hp)(b:xh!):Prop:=
 H b=none/\b≠X.env.locals/\b∉X.fs/\hU_/\hV!/\∀p∈X.pn++J,p.1≠b
def Inv.fpOk{X:Cx}{J:l_}{Z:St}{H H':Hp}{s:zS!}{b:xh!}(I:d!)(O:o_<=b)(hn:H' b=none):Iw X J H' b:=by
 refine⟨hn,ND (HH I.lt O),I.nofs O,.inr (HR I.sz O),λx c e z=>?_,λp hp z=>?_⟩
 .obtain⟨v,q⟩:=I.cell x c e;exact absurd (HH q.lt rE!) dB!
 .exact absurd (HH rE_ rE!) dB!
structure Qx(P:xR!)(w:xM!)(K:zT!)(tg:Expr)(ac:It)(fp:aq!)(it:xh!)(tn:dI_):Prop where
 mem:it∈fp
 obj:∀i h,tn i h->∀b∈fp,∃o,h.get? b=some o/\∀v,o.data≠.cell v
 keep:∀i h h',tn i h->(∀b∈fp,∀o,h.get? b=some o->h'.get? b=some o)->tn i h'
 item:∀(X:Cx),X.prog=P->X.w=w->X.K=K->X.calm=true->∀(i:Nat) (J:l_) (s:zS!) (Z:St) (H:Hp) (E:p!),Inv X J Z H s->rF!->tn i s.heap->ac.go i H->
  wpAny L! X.A ii! (λr s1=>∃u,r=some u/\
   wpAny L! X.A rG! (λ_ s2=>∃x H',Inv X J Z H' s2/\Bp x u/\ac.yld i H x H'/\tn a1! s2.heap/\∀b∈fp,H' b=none) E s1) E s
 done:∀(X:Cx),X.prog=P->X.w=w->X.K=K->X.calm=true->∀(i:Nat) (J:l_) (s:zS!) (Z:St) (H:Hp) (E:p!),Inv X J Z H s->rF!->tn i s.heap->ac.stop i H->
  wpAny L! X.A ii! (λr s1=>r=none/\Inv X J Z H s1) E s
 self:∀(A:xz!) (i:Nat) (s:zS!) (Q:p!) (E:p!),tn i s.heap->Q bZ_ s->wpAny L! A (pyIter bZ_) Q E s
abbrev TI:=St->Hp->(It->Hp->Prop)->Prop
def CP(X:Cx)(J:l_)(Z:St)(tg:Expr)(R:f5_)(ve:xL!)(s2:zS!):Prop:=
 ∃(it:xh!) (fp:aq!) (tn:dI_) (ac:It) (H':Hp),ve=.ref it/\Inv X J Z H' s2/\Qx X.prog X.w X.K tg ac fp it tn/\tn 0 s2.heap/\(∀b∈fp,Iw X J H' b)/\R ac H'
def PI(X:Cx)(tg iter:Expr)(wi:TI):Prop:=
 ∀(J:l_) (s:zS!) (Z:St) (H:Hp) (R:f5_),Inv X J Z H s->wi Z H R->
  wpAny e_ X.A (eval iter X.env) (λv s1=>wpAny e_ X.A (pyIter v) rI! X.xe s1) X.xe s
def b3b{M:Model}{A:xz!}{E:p!}{s:zS!}{tg:Expr}{u:xL!}{o:Obj}{n:String}{vs:aa!}{Q:cS_}(ho:s.heap.get? it=some o)(hc:o.cls=.type n)(hd:o.data=.fields vs)
  (hn:(rI_).contains n=false)(hQ:Q () s):wpAny M A rG! Q E s:=by
 unfold letOwnedTupleGo;cases tg<;>first
  |exact GH hQ
  |(cases u<;>first
    |exact GH hQ
    |(refine GF (wpAny_load ho ?_);rw[hc,hd];show wpAny M A (if((rI_).contains n&&vs[0]?==some (rawInt _))=true then _ else _) Q E s;rw[GL (by intro h;rw[hn,Bool.false_and]at h;cases h)];exact GH hQ))
def EO(K:zT!)(a:xh!):It:=
 ⟨λi H=>∃xs x,Et K H a xs/\xs[i]?=some x,λi H x H'=>H'=H/\∀xs,Et K H a xs->xs[i]?=some x,λi H=>∃xs,Et K H a xs/\i_<=i⟩
def GE(K:zT!)(a:xh!):It:=
 ⟨λi H=>∃xs x,Fz K H a xs/\xs[i]?=some x,λi H x H'=>H'=H/\∀xs,Fz K H a xs->xs[i]?=some x,λi H=>∃xs,Fz K H a xs/\i_<=i⟩
def BS(lo:Int)(n:Nat):It:=⟨λi _=>i<n,λi H x H'=>H'=H/\x=.int (lo+i),λi _=>n<=i⟩
def b3y{P:xR!}{w:xM!}{K:zT!}{tg:Expr}(a it:xh!):Qx P w K tg (EO K a) [it] it (λi h=>h.IsListIter it a i) where
 mem:=by simp
 obj:=λi h st b O=>by
  have e:b=it:=by simpa using O
  subst e;show"!T"
 keep:=λi h h' st k=>st.at λo e=>k it c_ o e
 item:=by
  show"!/";obtain⟨xs,x,hq,L⟩:=hg;obtain⟨its,rv,p,hz⟩:=I.list hq;obtain⟨u,hu,ru⟩:=rv.get L;show"!2";refine wpAny_pyNext_list_item st p.isList (x:=u) ij_ λh' h1 sb=>?_;show"!A";exact⟨u,rfl,b3b (s:=ik!) e c d c! ⟨x,H,I1,ru,⟨rfl,l4_⟩,h1,il_⟩⟩
 done:=by
  show"!q";show"!2";have hl:=dJ!;exact wpAny_pyNext_list_end bu_ st p.isList bd_ λh' eb=>in!
 self:=λ_ _ _ _ _ st h=>wpAny_pyIter_listiter st h
def a8m{P:xR!}{w:xM!}{K:zT!}{tg:Expr}(it:xh!)(lo:Int)(n:Nat):Qx P w K tg (BS lo n) [it] it (λi h=>IsRangeIter h it (lo+(i:Nat)*1) ((n:Int) - (i:Nat)) 1) where
 mem:=by simp
 obj:=λi h st b O=>by
  have e:b=it:=by simpa using O
  subst e;exact⟨_,st,λv z=>by
   have z':Data.fields _=Data.cell v:=z;cases z'⟩
 keep:=λi h h' st k=>k it c_ _ st
 item:=by
  show"!/";show"!2";have W:=Walks.range (prog:=X.prog) (w:=X.w) bu_ it lo 1 n;refine W.item i s _ _ hg st λv h' tk hv h1 kk=>?_;obtain⟨t,rfl⟩:=hv;show"!_";refine⟨_,rfl,b3b (s:={s with heap:=h',toks:=tk}) (n:="range_iterator") h1 rfl rfl c! ⟨.int (lo+i),H,I1,⟨t,?_⟩,bI_,h1,il_⟩⟩;rw[Int.mul_one]
 done:=by
  show"!/";show"!2";exact wpAny_pyNext_range_end bu_ st (by have:n<=i:=hg;omega) λh' eb=>in!
 self:=λ_ _ _ _ _ st h=>wpAny_pyIter_rangeiter st h
end L2
namespace L2
open PySem PySem.Spec PyProof.Rows
section
variable{X:Cx}{tg:Expr}
def BK(K:zT!)(tl:TE):TI:=λZ H R=>tl Z H λx H1=>∃a,x=.ref a/\(∃xs,Et K H1 a xs)/\R (EO K a) H1
def EG(K:zT!)(tl:TE):TI:=λZ H R=>tl Z H λx H1=>∃a,x=.ref a/\(∃xs,Fz K H1 a xs)/\R (GE K a) H1
def b1y{l:Expr}{tl:TE}(hl:PE X l tl):PI X tg l (BK X.K tl):=by
 intro J s Z H R I h;refine cZ xO_ λv s1 ⟨x,H1,I1,r1,q1⟩=>?_;obtain⟨a,e,⟨xs,hq⟩,q⟩:=q1;subst e;cases r1;obtain⟨its,rv,p,hz⟩:=I1.list hq;refine wpAny_pyIter_list p.isList ?_;refine⟨y!,[y!],_,_,H1,rfl,io!,b3y a _,dK!,be!,q⟩;have e:b=y!:=by simpa using O
 show"!P"
def a5n{J:l_}{Z:St}{H:Hp}{s:zS!}{R:f5_}{E:p!}{lo hi:Int}{t u v:Tok}{tk:Nat}(I:d!)(B:-f8_<=lo)(Y:lo<2 ^ 62)(h3:-f8_<=hi)(h4:hi<2 ^ 62)
  (q:R (BS lo (l7!).toNat) H):wpAny e_ X.A (pyIter c1_) rI! E {s with heap:=s.heap.push {cls:=.type "range",data:=.fields #[.int lo t,.int hi u,.int 1 v]},toks:=tk}:=by
 refine wpAny_pyIter_range (IsRange.new ..) (small_one B Y h3 h4) ?_;have I1:Inv X J Z H {s with heap:=s.heap.push {cls:=.type "range",data:=.fields #[.int lo t,.int hi u,.int 1 v]},toks:=tk}:=I.kept λb o e=>GK _ e;refine⟨(l8_).objs.size,[(l8_).objs.size],_,_,H,rfl,
  I1.kept (t':=tk) λb o e=>GK _ e,a8m _ lo (l7!).toNat,?_,λb O=>?_,q⟩
 .have e1:lo+c2!*1=lo:=by simp
  have e2:rS! - c2!=Builtin.Range.rangeSize lo hi 1:=by rw[rangeSize_one];split<;>omega
  show IsRangeIter _ _ (lo+c2!*1) (rS! - c2!) 1;rw[e1,e2];exact HG _ rfl
 .have e:b=(l8_).objs.size:=by simpa using O
  show"!P"
def BJ(ta:TA):TI:=λZ H R=>ta Z H λvs H1=>∃j:Int,vs=[eE!]/\-f8_<=j/\j<2 ^ 62/\R (BS 0 j.toNat) H1
def BI(ta:TA):TI:=λZ H R=>ta Z H λvs H1=>∃i j:Int,vs=[bc_,eE!]/\(-f8_<=i/\i<2 ^ 62/\-f8_<=j/\j<2 ^ 62)/\R (BS i (j - i).toNat) H1
def b4o{a:Expr}{ta:TA}{p pos:Pos}(hg:iq_)(hm:iq!)(ha:PA X [a] ta)(hs:rT_:=by rfl):PI X tg rU! (BJ ta):=by
 intro J s Z H R I h;refine Call_ (iV I hg hm boot_range (JB mb_ hs rfl));obtain⟨j,e,q1,q2,q⟩:=q1;subst e;cases r1 with
 |cons r rr=>
  cases rr;show"#%";exact call_range_1 (a5n I1 a! a! q1 q2 (by simpa using q))
def b4n{a b:Expr}{ta:TA}{p pos:Pos}(hg:iq_)(hm:iq!)(ha:PA X af! ta)(hs:rV_:=by rfl)(bi:rW!:=by rfl):
  PI X tg rW_ (BI ta):=by
 intro J s Z H R I h;refine Call_ (iV I hg hm boot_range (JB mb_ (by rw[hs,bi]) (by rw[bi];rfl)));obtain⟨i,j,e,⟨q1,q2,q3,q4⟩,q⟩:=q1;subst e;cases r1 with
 |cons r rr=>
  cases rr with
  |cons r' rr=>
   cases rr;show"#%";obtain⟨t',rfl⟩:=r';exact call_range_2 (a5n I1 q1 q2 q3 q4 q)
def DN(wi:TI)(g:TG)(tb:TS):TS:=λD Z H=>wi Z H λac H1=>∃W:Nat->Nat->St->Hp->Prop,(∃m,W 0 m Z H1)/\∀i m Z H,W i m Z H->
 (ac.stop i H/\D.nx Z H)\/(ac.go i H/\∃N:St->Hp->Prop,(∀hx H',N hx H'->∃m',m'<m/\W a1! m' hx H')/\∀x H',ac.yld i H x H'->g x Z H' λc7 H2=>tb {D with nx:=N,ct:=N,bk:=D.nx} c7 H2)
def Qq(fp:aq!)(h:Heap):List et_:=fp.filterMap λb=>(h.get? b).map λo=>(b,o)
def jU{fp:aq!}{h:Heap}{b:xh!}{o:Obj}(O:b∈fp)(e:qz!):(b,o)∈Qq fp h:=LI.mpr ⟨b,O,by rw[e];rfl⟩
def b5a{fp:aq!}{h:Heap}{p:Addr×Obj}(hp:p∈Qq fp h):p.1∈fp/\h.get? p.1=some p.2:=by
 obtain⟨b,O,e⟩:=LI.mp hp;cases q:h.get? b with
 |none=>rw[q]at e;cases e
 |some o=>
  rw[q]at e;have e':(b,o)=p:=IG e;subst e';exact⟨O,q⟩
def Inv.pinned{J:l_}{Z:St}{H:Hp}{s:zS!}{fp:aq!}(I:d!)(hf:∀b∈fp,Iw X J H b)(ho:∀b∈fp,∃o,s.heap.get? b=some o/\∀v,o.data≠.cell v):Inv X (J++Qq fp s.heap) Z H s:=
 I.pins_of λp hp=>(GT.mp hp).elim (λz=>I.pin p (GV _ z)) λz=>by
  obtain⟨O,e⟩:=b5a z;obtain⟨f0,f1,f2,_⟩:=hf p.1 O;obtain⟨o,e',d⟩:=ho p.1 O;rw[e]at e';cases e';exact⟨e,f0,f1,f2,d⟩
def Inv.unpinned{J pl:l_}{Z:St}{H:Hp}{s:zS!}(I:Inv X (J++pl) Z H s):Inv X J Z H s:=I.pins_of λp hp=>I.pin p (GV _ (HJ _ hp))
def b7s{body:bG_}{wi:TI}{g:TG}{tb:TS}{pos:Pos}(hp:f5!)(hc:bu!)(hi:md_)(hg:l0!)(O:Tz X body tb)
  (hs:c2_:=by intro _;rfl):PS X rZ! (DN wi g tb):=by
 intro J s Z H D I h;refine wpAny_For (cZ (hi J s Z H _ I h) λv s1 B=>cZ B λve s2 Y=>?_) hs;obtain⟨it,fp,tn,ac,H2,e,I2,T,bj,f2,W,⟨m0,w0⟩,turn⟩:=Y;subst e;have mi:∀{H':Hp},ga!->∀b∈fp,Iw X J H' b:=λhn b O=>⟨hn b O,(it!).2⟩;refine codeAny_forLoop_any (λn s'=>∃i hx H',Inv X J hx H' s'/\tn i s'.heap/\ga!/\W i n hx H') ?_ m0 ⟨0,Z,H2,I2,bj,r0!,w0⟩;rintro n s3 ⟨i,gh,H3,I3,vf,SE,w3⟩;obtain⟨stop,qn⟩|⟨go,N,hN,step⟩:=turn i n gh H3 w3
 .refine LZ hp (cZ (T.done X rfl rfl rfl hc i J s3 gh H3 X.xe I3 (mi SE) vf stop) λr s4 ⟨hr,I4⟩=>?_);subst hr;exact QA ⟨gh,H3,I4,qn⟩
 .refine LZ hp (cZ (T.item X rfl rfl rfl hc i J s3 gh H3 X.xe I3 (mi SE) vf go) λr s4 ⟨u,hr,h4⟩=>?_);subst hr;refine LZ hp (cZ h4 λ_ s5 ⟨x,H5,I5,r5,y5,mj,xg⟩=>?_);have xh:=I5.pinned (mi xg) r2!;refine LZ hp (cZ (hg _ s5 gh H5 x u _ xh r5 r2_) λ_ s6 ⟨lb,H6,I6,q6⟩=>?_);refine LZ hp (cZ (O _ s6 lb H6 _ I6 q6) λf s7 q7=>?_);have again:∀{io:St} {H7:Hp},Inv X (J++Qq fp s5.heap) io H7 s7->N io H7->∃m,m<n/\∃i hx H',Inv X J hx H' s7/\tn i s7.heap/\ga!/\W i m hx H':=λ{io H7} I7 n7=>by
   obtain⟨m',hm,w7⟩:=hN io H7 n7;refine⟨m',hm,i+1,io,H7,iu!,T.keep _ _ _ mj λb O o e=>(r4_).1,be!,w7⟩;obtain⟨o,e,d⟩:=T.obj _ _ mj b O;exact(r4_).2.1
  cases f with
  |next=>obtain⟨io,H7,I7,n7⟩:=q7;exact again I7 n7
  |cont=>obtain⟨io,H7,I7,n7⟩:=q7;exact again I7 n7
  |brk=>obtain⟨io,H7,I7,q7⟩:=q7;exact⟨io,H7,iu!,q7⟩
  |ret v=>obtain⟨x7,io,H7,I7,r7,q7⟩:=q7;exact⟨x7,io,H7,iu!,r7,q7⟩
end
end L2
namespace L2
open PySem PySem.Spec PyProof.Rows
abbrev R2:=V->V->Hp->VK->Prop
def Gq(X:Cx)(f:eF!)(r:R2):Prop:=
 ∀(J:l_) (s:zS!) (Z:St) (H:Hp) (x y:V) (v u:xL!) (Q:VK),Inv X J Z H s->Bp x v->Bp y u->r x y H Q->
  wpAny e_ X.A (f v u) aJ! X.xe s
def EJ(X:Cx)(f:r6!)(r:mf!):Prop:=
 ∀(J:l_) (s:zS!) (Z:St) (H:Hp) (x:V) (v:xL!) (Q:VK),Inv X J Z H s->Bp x v->r x H Q->
  wpAny e_ X.A (f v) aJ! X.xe s
def Iq(X:Cx)(f:xL!)(r:ct_):Prop:=
 ∀(J:l_) (s:zS!) (Z:St) (H:Hp) (xs:k!) (us:h_) (Q:VK),Inv X J Z H s->Ba xs us->r xs H Q->
  wpAny e_ X.A (call f us) aJ! X.xe s
def EK(X:Cx)(r:V->Hp->uW_->Prop):Prop:=
 ∀(J:l_) (s:zS!) (Z:St) (H:Hp) (x:V) (v:xL!) (Q:dD_),Inv X J Z H s->Bp x v->r x H Q->
  wpAny e_ X.A lP! h3_ X.xe s
def AB(r:R2)(ta tb:TE):TE:=λZ H Q=>ta Z H λx H1=>tb Z H1 λy H2=>r x y H2 Q
def FO(r:mf!)(ta:TE):TE:=λZ H Q=>ta Z H λx H1=>r x H1 Q
nonrec def rI(C:mf_)(g:iu_):R2:=λx y H Q=>∃i j,x=.int i/\y=.int j/\C i j/\Q bw! H
def Sa(g:iu_):R2:=λx y H Q=>∃i j,x=.int i/\y=.int j/\Q bw! H
nonrec def rU(g:Int->V):V->Hp->VK->Prop:=λx H Q=>∃i,x=.int i/\Q (g i) H
section
variable{X:Cx}{a b c:Expr}{ta tb tc:TE}{pos:Pos}
def c9o(ha:aZ!)(O:cq!){J:l_}{s:zS!}{Z:St}{H:Hp}{R:va!}(I:d!)
  (h:q4_){Q:p!}{f:eF!}
  (hf:q5_):
  wpAny e_ X.A lI! q7! X.xe s:=by
 show"!9"
def b2a{op:Operator}{r:R2}(ho:mg!)(ha:aZ!)(O:cq!):PE X mg_ iv_:=by intro J s Z H Q I h;exact wpAny_BinOp r6_
def d0q{op:UnaryOp}{r:mf!}(ho:EJ X (unaryOp op) r)(ha:aZ!):PE X (.UnaryOp op a pos) (FO r ta):=by intro J s Z H Q I h;exact UnaryOp_ (cZ bX_ λv s1 ⟨x,H1,I1,r1,q1⟩=>ho J s1 Z H1 x v Q I1 r1 q1)
def opI{f:eF!}{C:mf_}{g:l1_}
  (rule:∀(i j:Int) (t u:Tok) (s:zS!) (Q:p!) (E:p!),C i j->Q r7_ {s with toks:=s.toks+1}->wpAny e_ X.A mh_ Q E s):
  Gq X f (rI C λi j=>.int bw!):=by
 intro J s Z H x y v u Q I rx ry h;obtain⟨i,j,rfl,rfl,hc,q⟩:=h;show"!=";obtain⟨t',rfl⟩:=ry;exact rule i j t t' s _ _ hc r8!
def d0v{f:eF!}{g:l1_}
  (rule:∀(i j:Int) (t u:Tok) (s:zS!) (Q:p!) (E:p!),Q r7_ {s with toks:=s.toks+1}->wpAny e_ X.A mh_ Q E s):
  Gq X f (Sa λi j=>.int bw!):=by
 show"!H";exact rule i j t t' s _ _ r8!
def c3f{f:eF!}{g:mi!}
  (rule:∀(i j:Int) (t u:Tok) (s:zS!) (Q:p!) (E:p!),Q (.bool bw!) s->wpAny e_ X.A mh_ Q E s):
  Gq X f (Sa λi j=>.bl bw!):=by
 show"!H";exact rule i j t t' s _ _ ⟨.bl bw!,H,I,rfl,q⟩
def Zz(i j:Int):Prop:=0<j/\j<1073741824
def Zy(i j:Int):Prop:=0<=j/\j<=1000000/\dL_<2 ^ 64
def Xb(i j:Int):Prop:=(-ix!<i/\i<2 ^ 64)\/(-ix!<j/\j<2 ^ 64)
def Xb.ok{i j:Int}(h:Xb i j):IntMulOk i j:=by
 obtain⟨B,Y⟩|⟨B,Y⟩:=h
 .exact .of_left yN_
 .exact .of_right yN_
def c7h:Gq X eF_ (Sa λi j=>.int (i+j)):=d0v λ_ _ _ _ _ _ _ q=>add_int q
def nR:Gq X (binaryOp .Sub) r9_:=d0v λ_ _ _ _ _ _ _ q=>sub_int q
def qW:Gq X mj! mj_:=opI λ_ _ _ _ _ _ _ hc q=>mul_int q hc.ok
def mI:Gq X (binaryOp .FloorDiv) mk!:=opI λi j _ _ _ _ _ hc q=>by
 have B:(0:Int)<j:=hc.1;have Y:j<1073741824:=hc.2;exact floordiv_int a! (by rw[Int.fdiv_eq_ediv_of_nonneg i a!];exact q) (.inl (PyProof.noPylong_small a!))
def fD:Gq X (binaryOp .Mod) mk_:=opI λi j _ _ _ _ _ hc q=>by
 have B:(0:Int)<j:=hc;exact mod_int' a! (by rw[Int.fmod_eq_emod_of_nonneg i a!];exact q)
def c7b:Gq X (binaryOp .Pow) ml_:=opI λ_ _ _ _ _ _ _ hc q=>pow_int_small hc.1 hc.2.1 hc.2.2 q
def unI{f:r6!}{g:Int->Int}
  (rule:∀(i:Int) (t:Tok) (s:zS!) (Q:p!) (E:p!),Q (.int (g i) s.toks) {s with toks:=s.toks+1}->wpAny e_ X.A (f dx_) Q E s):
  EJ X f (rU λi=>.int (g i)):=by
 intro J s Z H x v Q I rx h;obtain⟨i,rfl,q⟩:=h;show"!=";exact rule i t s _ _ ⟨.int (g i),H,aZ_,H_,q⟩
def c6g:EJ X (unaryOp .USub) (rU λi=>.int (-i)):=unI λ_ _ _ _ _ q=>neg_int q
end
def DU:V->V->Bool
 |.non,.non=>true|.non,.int _=>true|.int _,.non=>true|.non,.bl _=>true|.bl _,.non=>true|.non,.str _=>true|.str _,.non=>true
 |.int _,.int _=>true|.bl _,.bl _=>true|.str _,.str _=>true|.byt _,.byt _=>true
 |.int _,.str _=>true|.str _,.int _=>true|.bl _,.str _=>true|.str _,.bl _=>true
 |_,_=>false
def FA:R2:=λx y H Q=>DU x y=true/\Q (.bl (!decide (x=y))) H
def b3i{i j:Int}:decide (V.int i=V.int j)=(i==j):=by rw[KI];simp
def c9a{i j:Bool}:decide (V.bl i=V.bl j)=(i==j):=by rw[KI];simp
def b3h:decide (V.str i=V.str j)=(i==j):=by rw[KI];simp
def c4s{i j:Array UInt8}:decide (V.byt i=V.byt j)=(i.toList==j.toList):=by rw[KI];cases i;cases j;simp
section
variable{X:Cx}{a b c:Expr}{ta tb tc:TE}{pos:Pos}
def eH{J:l_}{Z:St}{H:Hp}{s:zS!}{Q:VK}{k k':Bool}(I:d!)(q:Q (.bl k) H)(e:k=k'):EP X J Z Q (.bool k') s:=by subst e;exact⟨.bl k,H,I,rfl,q⟩
def zD:Gq X sc_ FA:=by
 intro J s Z H x y v u Q I rx ry h;obtain⟨hs,q⟩:=h;cases x with
 |non=>
  cases rx;cases y with
  |non=>cases ry;exact PySem.EqNone.ne_none_none bJ!
  |bl j=>cases ry;exact PySem.EqNone.ne_none_bool bJ!
  |int j=>obtain⟨t',rfl⟩:=ry;exact PySem.EqNone.ne_none_int bJ!
  |str j=>obtain⟨t',rfl⟩:=ry;exact PySem.EqNone.ne_none_str bJ!
  |_=>exact absurd eJ! HF
 |bl i=>
  cases rx;cases y with
  |non=>cases ry;exact PySem.EqNone.ne_bool_none bJ!
  |bl j=>cases ry;exact ne_bool (eH I q (congrArg not c9a))
  |str j=>obtain⟨t',rfl⟩:=ry;exact PySem.EqMixed.ne_bool_str bJ!
  |_=>exact absurd eJ! HF
 |int i=>
  obtain⟨t,rfl⟩:=rx;cases y with
  |non=>cases ry;exact PySem.EqNone.ne_int_none bJ!
  |int j=>obtain⟨t',rfl⟩:=ry;exact ne_int (eH I q (congrArg not b3i))
  |str j=>obtain⟨t',rfl⟩:=ry;exact PySem.EqMixed.ne_int_str bJ!
  |_=>exact absurd eJ! HF
 |str i=>
  obtain⟨t,rfl⟩:=rx;cases y with
  |non=>cases ry;exact PySem.EqNone.ne_str_none bJ!
  |bl j=>cases ry;exact PySem.EqMixed.ne_str_bool bJ!
  |int j=>obtain⟨t',rfl⟩:=ry;exact PySem.EqMixed.ne_str_int bJ!
  |str j=>obtain⟨t',rfl⟩:=ry;exact ne_str (eH I q (congrArg not b3h))
  |_=>exact absurd eJ! HF
 |byt i=>
  obtain⟨t,rfl⟩:=rx;cases y with
  |byt j=>obtain⟨t',rfl⟩:=ry;exact W.ne_bytes (eH I q (congrArg not c4s))
  |_=>exact absurd eJ! HF
 |_=>cases y<;>exact absurd eJ! HF
def b2h:Gq X (compareOp .Lt) mn_:=c3f λ_ _ _ _ _ _ _ q=>lt_int q
def d0s:Gq X mo! (Sa λi j=>.bl mo_):=c3f λ_ _ _ _ _ _ _ q=>le_int q
def b8j:Gq X sg! mq_:=c3f λ_ _ _ _ _ _ _ q=>gt_int q
def d0u:Gq X (compareOp .GtE) mr_:=c3f λ_ _ _ _ _ _ _ q=>ge_int q
def a9j:Gq X (compareOp .Is) sg_:=by
 intro J s Z H x y v u Q I rx ry h;obtain⟨rfl,q⟩:=h;cases ry;refine is_none_gen (eH I q ?_);cases x<;>first
  |(cases rx;rfl)
  |(obtain⟨t,rfl⟩:=rx;rfl)
def mG:Gq X (compareOp .IsNot) sh_:=by
 intro J s Z H x y v u Q I rx ry h;obtain⟨rfl,q⟩:=h;cases ry;refine isnot_none_gen (eH I q ?_);cases x<;>first
  |(cases rx;rfl)
  |(obtain⟨t,rfl⟩:=rx;rfl)
def Gq.or{f:eF!}{r r':R2}(h:Gq X f r)(h':Gq X f r'):Gq X f si!:=by
 intro J s Z H x y v u Q I rx ry q;obtain q|q:=q
 .exact h J s Z H x y v u Q I rx ry q
 .exact h' J s Z H x y v u Q I rx ry q
def aQ(b:Expr){op:CmpOp}(h:op≠.In:=by decide)(Y:op≠.NotIn:=by decide):behindInMarks op b=false:=by
 have e1:rf_=false:=by cases op<;>first|rfl|exact absurd rfl h
 have e2:rg_=false:=by cases op<;>first|rfl|exact absurd rfl Y
 cases b<;>simp[behindInMarks,e1,e2]
def b2c{op:CmpOp}{r:R2}(ho:b3!)(ha:aZ!)(O:cq!)(hm:dE_):PE X dF! iv_:=by intro J s Z H Q I h;exact wpAny_Compare1 r6_ hm
def Yj(t:TE):TT:=λZ H Q=>t Z H λx H'=>∃k,x=.bl k/\Q k H'
def b1r{op:CmpOp}{r:R2}(ho:b3!)(ha:aZ!)(O:cq!)(hm:dE_):PT X dF! (Yj iv_):=by
 intro J s Z H Q I h;refine PY (cZ bX_ λv s1 ⟨x,H1,I1,r1,q1⟩=>cZ f0! λu s2 ⟨y,H2,I2,r2,q2⟩=>
  cZ ms! λc s3 ⟨z,H3,I3,r3,k,e,q3⟩=>?_) hm
 subst e;cases r3;exact IH ⟨H3,I3,q3⟩
def Wf(r r':R2)(ta tb tc:TE):TE:=λZ H Q=>ta Z H λx H1=>tb Z H1 λy H2=>r x y H2 λz H3=>∃k,z=.bl k/\
 (if k=true then tc Z H3 λw' H4=>r' y w' H4 Q else Q as_ H3)
def b8g{op ez:CmpOp}{r r':R2}(ho:b3!)(eh:iA_)(ha:aZ!)(O:cq!)(hc:PE X c tc)
  (hm:iB!:=by with_unfolding_all rfl):PE X iB_ sk!:=by
 intro J s Z H Q I h;refine Compare_chain (cZ bX_ λv s1 ⟨x,H1,I1,r1,q1⟩=>chain_link (cZ f0! λu s2 ⟨y,H2,I2,r2,q2⟩=>
  cZ ms! λd s3 ⟨z,H3,I3,r3,k,e,q3⟩=>?_)) hm
 subst e;cases r3;refine IH ?_;cases k with
 |false=>exact ite_ff ⟨.bl false,H3,I3,rfl,q3⟩
 |true=>exact ite_tt (chain_last (cZ sk_ λw' s4 ⟨z',H4,I4,r4,q4⟩=>eh J s4 Z H4 y z' u w' Q I4 r2 r4 q4))
def b7p{op ez:CmpOp}{r r':R2}(ho:b3!)(eh:iA_)(ha:aZ!)(O:cq!)(hc:PE X c tc)
  (hm:iB!:=by with_unfolding_all rfl):PT X iB_ (Yj sk!):=by
 intro J s Z H Q I h;refine isTrue_chain (cZ bX_ λv s1 ⟨x,H1,I1,r1,q1⟩=>test_link (cZ f0! λu s2 ⟨y,H2,I2,r2,q2⟩=>
  cZ ms! λd s3 ⟨z,H3,I3,r3,k,e,q3⟩=>?_)) hm
 subst e;cases r3;refine IH ?_;cases k with
 |false=>
  obtain⟨k',e',q'⟩:=q3;cases e';exact ite_ff ⟨H3,I3,q'⟩
 |true=>
  refine ite_tt (test_last (cZ sk_ λw' s4 ⟨z',H4,I4,r4,q4⟩=>cZ (eh J s4 Z H4 y z' u w' _ I4 r2 r4 q4) λd' s5 ⟨z2,H5,I5,r5,k2,e2,q5⟩=>?_));subst e2;cases r5;exact IH ⟨H5,I5,q5⟩
def BP(K:zT!)(x:V)(H:Hp)(k:Bool):Prop:=
 match x with
 |.non=>k=false
 |.bl b=>k=b
 |.int i=>k=gf!
 |.str y=>cu!<=sizeLine/\k=((cu!:Int) != 0)
 |.byt y=>y.size<=sizeLine/\k=((y.size:Int) != 0)
 |.ref p=>(∃xs,Et K H p xs/\k=! dM!)\/(∃xs,Fz K H p xs/\k=! dM!)\/∃kvs,H p=some dM_/\k=! mt!
 |_=>False
def b0h{κ:Type}{kvs:gf_}{vs:List lo_}(r:KV kvs vs):(!vs.isEmpty)=! mt!:=by cases r<;>rfl
def wR{xs:k!}{its:h_}(r:Ba xs its):(! mt_)=! dM!:=by cases r<;>simp
def rL:(sizeLine:Nat)<2 ^ 63:=by rw[IN];decide
def c6i:EK X (λx H Q=>∃k,BP X.K x H k/\Q k H):=by
 intro J s Z H x v Q I rx h;obtain⟨k,e,q⟩:=h;have hl:=rL;have hs:sizeLine=16777216:=IN;cases x with
 |non=>
  cases rx;have e':k=false:=e;subst e';exact truthy_none mu_
 |bl b=>
  cases rx;have e':k=b:=e;subst e';exact IH mu_
 |int i=>
  show"!=";have e':k=gf!:=e;subst e';exact PySem.P.truthy_int mu_
 |str y=>
  show"!=";obtain⟨hy,e'⟩:cu!<=sizeLine/\k=((cu!:Int) != 0):=e;subst e';exact PySem.P.truthy_str a! ⟨H,aZ_,q⟩
 |byt y=>
  show"!=";obtain⟨hy,e'⟩:y.size<=sizeLine/\k=((y.size:Int) != 0):=e;subst e';exact W.truthy_bytes a! ⟨H,aZ_,q⟩
 |ref p=>
  cases rx;have e':(∃xs,Et X.K H p xs/\k=! dM!)\/(∃xs,Fz X.K H p xs/\k=! dM!)\/∃kvs,H p=some dM_/\k=! mt!:=e;obtain⟨xs,L,e'⟩|⟨xs,L,e'⟩|⟨kvs,L,e'⟩:=e'
  .subst e';obtain⟨its,r,pl,hz⟩:=I.list L;have ak:=aB!;exact wpAny_truthy_list pl.isList iC_ so_
  .subst e';obtain⟨its,r,pl,hz⟩:=I.tuple L;have ak:=aB!;exact truthy_tuple pl iC_ so_
  .subst e';obtain⟨hz,hS,vs,r,m⟩:az_<=sizeLine/\(p==sysModules)=false/\∃vs,KV kvs vs/\s.heap.DictOf (mixKind X.prog X.w) p vs:=I.hok p _ L;have ak:az_=bx_:=LJ r;exact wpAny_truthy_dict hS m a! ⟨H,aZ_,by rw[b0h r];exact q⟩
 |_=>exact(sp!).elim
def b7n(ha:aZ!)(he:∀dm,isTrue a X.env dm=(do let v <-dm;standAt a.pos;holding [v] lP!)):
  PT X a (λZ H Q=>ta Z H λx H'=>∃k,BP X.K x H' k/\Q k H'):=by
 show"!F";exact isTrue_plain (cZ bX_ λv s1 ⟨x,H1,I1,r1,q1⟩=>c6i J s1 Z H1 x v Q I1 r1 q1) (he _)
def a9k:Gq X eF_ (λx y H Q=>∃i j,x=.str i/\y=.str j/\i.length+j.length<=sizeLine/\Q (.str (i++j)) H):=by intro J s Z H x y v u Q I rx ry h;obtain⟨i,j,rfl,rfl,hz,q⟩:=h;obtain⟨t,rfl⟩:=rx;obtain⟨t',rfl⟩:=ry;exact add_str (λt' tk=>⟨.str (i++j),H,aZ_,H_,q⟩) hz
def kS{x:V}(r:Ba [x] us):∃u,us=[u]/\Bp x u:=by
 cases r with
 |cons r1 r2=>cases r2;exact⟨_,rfl,r1⟩
def b1c{x y:V}(r:Ba [x,y] us):∃u w',us=[u,w']/\Bp x u/\Bp y w':=by
 cases r with
 |cons r1 r2=>
  cases r2 with
  |cons r3 r4=>cases r4;exact⟨_,_,rfl,r1,r3⟩
def c1j:Iq X sr! ss!:=by intro J s Z H xs us Q I r h;obtain⟨i,rfl,q⟩:=h;obtain⟨u,rfl,t,rfl⟩:=kS r;exact call_abs_int λu tk=>⟨.int iD!,H,aZ_,H_,q⟩
def a4e:Iq X a2_ (λxs H Q=>∃i,xs=[bc_]/\gh!<1920/\Q pH! H):=by intro J s Z H xs us Q I r h;obtain⟨i,rfl,hz,q⟩:=h;obtain⟨u,rfl,t,rfl⟩:=kS r;exact PySem.P.str_of_int hz my_
def c1h:Iq X zP_ st_:=by intro J s Z H xs us Q I r h;obtain⟨x,rfl,hz,q⟩:=h;obtain⟨u,rfl,t,rfl⟩:=kS r;exact ord_of_one hz ih!
def Zv(K:zT!)(x:V)(H:Hp)(n:Nat):Prop:=
 match x with
 |.str y=>cu!<=sizeLine/\n=cu!
 |.byt y=>y.size<=sizeLine/\n=y.size
 |.ref p=>(∃xs,Et K H p xs/\n=i_)\/∃xs,Fz K H p xs/\n=i_
 |_=>False
def cO:Iq X sv_ (λxs H Q=>∃x n,xs=[x]/\Zv X.K x H n/\Q gi! H):=by
 intro J s Z H xs us Q I r h;obtain⟨x,n,rfl,e,q⟩:=h;obtain⟨u,rfl,rx⟩:=kS r;have hl:=rL;have hs:sizeLine=16777216:=IN;cases x with
 |str y=>
  show"!=";obtain⟨hy,e'⟩:cu!<=sizeLine/\n=cu!:=e;subst e';exact len_str a! ih!
 |byt y=>
  show"!=";obtain⟨hy,e'⟩:y.size<=sizeLine/\n=y.size:=e;subst e';exact W.len_bytes a! ih!
 |ref p=>
  cases rx;have e':(∃xs,Et X.K H p xs/\n=i_)\/∃xs,Fz X.K H p xs/\n=i_:=e;obtain⟨xs,L,e'⟩|⟨xs,L,e'⟩:=e'
  .subst e';obtain⟨its,r',pl,hz⟩:=I.list L;have ak:=iE!;exact Calls.call_len_list pl.isList iC_ sw!
  .subst e';obtain⟨its,r',pl,hz⟩:=I.tuple L;have ak:=iE!;exact len_tuple pl iC_ sw!
 |_=>exact(sp!).elim
end
end L2
namespace L2
open PySem PySem.Spec PyProof.Rows
structure Ut(h:Heap)(x dx C:xh!)(mA:B_):Prop where
 obj:h.get? x=some lp_
 ns:h.Ns1 dx mA
 ne:dx≠x
def b5g{h:Heap}{dx:xh!}{mA:B_}(n:h.Ns1 dx mA):∃od,h.get? dx=some od/\∀name,W.lookIn name od=some (mA name):=by
 obtain⟨o,es,ep,ho,hd,hk,_,hm⟩:=n;refine⟨o,ho,λname=>?_⟩;have e:=hm name;unfold nsFind findBy at e;rw[<-Array.find?_toList]at e;unfold W.lookIn;rw[hd];show"#<";split
 .rename_i y q;rw[q]at e;exact congrArg some e
 .rename_i q;rw[q]at e;have a:es.toList.any (·.refKey)=false:=by
   rw[List.any_eq_false];intro y hy;obtain⟨z,t,WQ⟩:=hk y (Array.mem_toList_iff.mp hy);simp[DictEntry.refKey,WQ]
  have a':¬es.toList.any (·.refKey)=true:=by rw[a];exact HF
  rw[GL a'];exact congrArg some e
def Ut.look{h:Heap}{x dx C:xh!}{mA:B_}(I:Ut h x dx C mA):∃od,W.InstAt h x lp_ C (some od)/\∀name,W.lookIn name od=some (mA name):=
 let⟨od,ho,hl⟩:=b5g I.ns
 ⟨od,⟨I.obj,rfl,rfl,ho⟩,hl⟩
section
variable{prog:xR!}{w:xM!}{A:xz!}{E:Value->Shared->Prop}{s:zS!}{K:zT!}{x dx C f:xh!}{mA:Str->Option Value}{name:Str}{v:xL!}
def c4h{expr:Bool}{Q:p!}(X:iE_)(I:mA_)(hg:sy!)(hh:sy_)
  (ha:W.findIn K au! name=some none)(hv:mA name=some v)(WR:W.handedIn v=true)(h:Q v {s with toks:=s.toks+1}):
  wpAny q_ A (getAttr fQ_ name expr) Q E s:=by
 show"#9";exact W.get_value X ac (mB!).1 (W.findObj_own hh ha rfl (by rw[hl,hv])) WR h
def c0e{pl:dN_}{Q:sA_}(X:iE_)(I:mA_)(hg:sy!)
  (hf:W.findIn K au! name=some eM!)(ht:mB_)(hv:mA name=none)(h:Q (.ref f,[.ref x]) s):
  wpAny q_ A (getMethod fQ_ name pl) Q E s:=by
 show"#9";exact W.method_fn X ac (mB!).1 (mB!).2 hf (LU.mp ht) (by show(W.lookIn name od).map (·.isSome)=some false;rw[hl,hv];rfl) h
def c2f{ns:j_}{Q:cS_}(X:iE_)(I:mA_)
  (hs:W.findIn K au! "__setattr__"=some sF_)(hp:W.plainOver K C=true)(ht:W.takerIn K C name=some none)(hh:sy_)
  (hw:PySem.Within mA ns)(hsz:sG_)
  (h:∀h',Ut h' x dx C (λy=>if y=name then some v else mA y)->Heap.SameBut dx s.heap h'->Q () {s with heap:=h',toks:=s.toks+2}):
  wpAny q_ A (setAttr fQ_ name v) Q E s:=by
 show"#9";refine W.set_plain X ac hs (W.osa_open (s:=mC_) (r:=none) X ac hp ht λb=>?_);obtain⟨cd,hc,xc⟩:=W.any_some hh;have L:s.heap.get? x=some ⟨.ref C,some dx,.plain,#[]⟩:=I.obj;refine GF (GH (GF (GF (wpAny_loadPart L (GF (W.Looks.here (s:=mC_) (W.looks_clsIn X hc) ?_))))));rw[xc];refine GH (a:=some dx) (GF (GH gj_));refine wpAny_nsSet1 (s:=mC_) I.ns λh' ie bi=>?_;obtain⟨oD,esD,epD,xk,xl,WU⟩:=ie.count (PySem.Within.cons name v hw);refine GF (wpAny_lookBehind xk (by rw[xl];exact pastItsLine_dict (HR WU sJ_)) ?_);exact GH (h _ ⟨(bi.2 _ (GN I.ne)).trans I.obj,ie,I.ne⟩ bi)
def b9i{R:sK_}{kw:dO!}(X:iE_)(hm:sM_)
  (hi:sM!)(hf:W.typeIn K ae_=some (.type "function"))
  (h:codeAny q_ (A.under (.builtin "type.__call__" ⟨.ref C::vs,kw⟩)) (.call ae_ ⟨.ref ab!::vs,kw⟩) (W.InitBack ab! R)
   {s with heap:=(eM_).push iG_}):
  codeAny q_ A (.call au! ⟨vs,kw⟩) R s:=by
 obtain⟨hh,g,d,t,os⟩:=s;exact W.make_core (W.makes_of X hm) (W.looks_findIn X hi) (λself=>W.bind_fn X self hf) aA! h
end
def Ko(f:Str)(v:V):List dz_->List dz_
 |[]=>[(f,v)]
 |(g,x)::r=>if g=f then(g,v)::r else(g,x)::Ko f v r
def sN(f g:Str)(v:V):∀fs:List dz_,(iH!).lookup g=if g=f then some v else fs.lookup g
 |[]=>by
  show List.lookup g [(f,v)]=_;by_cases h:g=f
  .have O:(g==f)=true:=LU.mpr h;simp only[List.lookup,O,GU h]
  .have O:(g==f)=false:=KA.mpr h;simp only[List.lookup,O,GL h]
 |(k,x)::r=>by
  have ih:=sN f g v r;rw[mE!];by_cases hk:k=f
  .rw[a4!];by_cases h:g=k
   .have O:(g==k)=true:=LU.mpr h;simp only[List.lookup,O,GU (h.trans hk)]
   .have O:(g==k)=false:=KA.mpr h;simp only[List.lookup,O,GL (λe:g=f=>h (e.trans hk.symm))]
  .rw[aD_];by_cases h:g=k
   .have O:(g==k)=true:=LU.mpr h;simp only[List.lookup,O,GL (λe:g=f=>hk (h.symm.trans e))]
   .have O:(g==k)=false:=KA.mpr h;simp only[List.lookup,O];exact ih
def rN(f:Str)(v:V):∀fs:List dz_,f∈(iH!).map b!/\∀g,g∈fs.map b!->g∈(iH!).map b!
 |[]=>⟨by simp[Ko],λg h=>by simp at h⟩
 |(k,x)::r=>by
  obtain⟨i1,i2⟩:=rN f v r;rw[mE!];by_cases hk:k=f
  .rw[a4!];subst hk;exact⟨H!,λg h=>by simpa using h⟩
  .rw[aD_];refine⟨?_,λg h=>?_⟩
   .rw[GM];exact GI _ i1
   .rw[GM]at h ⊢;obtain e|e:=GJ.mp h
    .exact GJ.mpr (.inl e)
    .exact GI _ (i2 g e)
def sP(f:Str)(v:V):∀fs:List dz_,(iH!).length<=bq!+1
 |[]=>by simp[Ko]
 |(k,x)::r=>by
  have ih:=sP f v r;rw[mE!];by_cases hk:k=f
  .rw[a4!,GS,GS];omega
  .rw[aD_,GS,GS];omega
def Ny.some_of{v:V}{o:mE_}(r:Ny dC! o):∃u,o=some u/\Bp v u:=by
 cases o with
 |none=>exact(iH_).elim
 |some u=>exact⟨u,rfl,r⟩
def Ny.none_of{o:mE_}(r:Ny none o):o=none:=by
 cases o with
 |none=>rfl
 |some u=>exact(iH_).elim
def b5n{v:V}{u:xL!}(r:bs!):W.handedIn u=true:=by
 cases v with
 |non=>cases (show u=dz! from r);rfl
 |bl b=>cases (show u=Value.bool b from r);rfl
 |int i=>obtain⟨t,e⟩:=sQ_;cases e;rfl
 |str x=>obtain⟨t,e⟩:=sR!;cases e;rfl
 |byt b=>obtain⟨t,e⟩:=(show∃t,u=Value.bytes b t from r);cases e;rfl
 |flt b=>obtain⟨t,e⟩:=(show∃t,u=Value.float b t from r);cases e;rfl
 |ref a=>cases (show u=Value.ref a from r);rfl
 |ty n=>cases (show u=Value.type n from r);rfl
section
variable{P:xR!}{w:xM!}{H H':Hp}{h h':Heap}{a C dx:xh!}{fs u9:List (Str×V)}
def a3k(hok:bq_)(e:iI!):∃mA,Ut h a dx C mA/\qn_/\PySem.Within mA lq!/\bq!<=1000/\H dx=some fP_:=by obtain⟨d,z,ne,ob,mA,n,r,q⟩:=(show Fj P w H h a eN_ from hok a _ e);exact⟨mA,⟨ob,n,ne⟩,r,q,z,d⟩
end
structure Ud(K:zT!)(C:xh!):Prop where
 pg:W.plainGet K C mF_=true
 hd:W.hasDictIn K C=true
 po:W.plainOver K C=true
 sa:W.findIn K au! "__setattr__"=some sF_
def Ud.get{K:zT!}{C:xh!}(c:Ud K C)(f:Str):W.plainGet K C f=true:=c.pg
def Ef(K:zT!)(C:xh!)(f:Str):Prop:=W.findIn K au! f=some none
def Ef.taker{K:zT!}{C:xh!}{f:Str}(n:Ef K C f):W.takerIn K C f=some none:=by unfold W.takerIn;rw[show W.findIn K au! f=some none from n];rfl
structure Vw(K:zT!)(C:xh!)(m:Str)(f:xh!):Prop where
 at_:W.findIn K au! m=some eM!
 fn:W.isFn K ae_=true
 kp:W.keepIn K ae_=true
section
variable{X:Cx}{J:List (Addr×Obj)}{Z:St}{H:Hp}{s:zS!}{a C dx:xh!}{fs:List (Str×V)}{f:Str}{v:V}{A:xz!}{E:Value->Shared->Prop}
def b0m{b:Bool}{Q:p!}(I:d!)(e:iI!)(c:dO_)(n:Ef X.K C f)(l:fs.lookup f=some v)
  (h:∀u s',Inv X J Z H s'->Bp v u->Q u s'):wpAny e_ A (getAttr aa_ f b) Q E s:=by
 obtain⟨mA,ml,r,_,_,_⟩:=a3k I.hok e;obtain⟨u,hu,ru⟩:=Ny.some_of (v:=v) (o:=mA f) (by rw[<-l];exact r f);exact c4h I.kIn ml (c.get f) c.hd n hu (b5n ru) (h u _ iJ! ru)
def oB{m:Str}{pl:dN_}{Q:sA_}(I:d!)(e:iI!)(c:dO_)(k:Vw X.K C m g)(l:fs.lookup m=none)
  (h:Q (.ref g,bf_) s):wpAny e_ A (getMethod aa_ m pl) Q E s:=by
 obtain⟨mA,ml,r,_,_,_⟩:=a3k I.hok e;have hn:mA m=none:=Ny.none_of (by rw[<-l];exact r m);exact c0e I.kIn ml (c.get m) k.at_ k.fn hn h
def a8t{y:V}{u:xL!}{Q:cS_}(I:d!)(e:iI!)(c:dO_)(n:Ef X.K C f)(hl:bq!<1000)(ry:Bp y u)
  (h:∀s',Inv X J Z (upd H a sU_) s'->Q () s'):wpAny e_ A (setAttr aa_ f u) Q E s:=by
 obtain⟨mA,ml,r,wi,_,ho⟩:=a3k I.hok e;have hz:(lq!).length<=sizeLine:=by rw[GX,IN];omega
 refine c2f I.kIn ml c.sa c.po n.taker c.hd wi hz λh' O' sb=>h _ ?_;have hd:∃o,h'.get? dx=some o:=let⟨o,_,_,e',_⟩:=O'.ns;⟨o,e'⟩;refine I.write (x:=a) (e:=dx) sV_ (.inr ho) (λb q O z=>(sb.2 b O).trans z) hd ?_;refine⟨by rw[aV ml.ne];exact ho,?_,ml.ne,O'.obj,_,O'.ns,λg=>?_,λg hg=>?_⟩
 .have:=sP f y fs;omega
 .show Ny ((Ko f y fs).lookup g) sY_;rw[sN];by_cases q:g=f
  .rw[GU q,GU q];exact ry
  .rw[GL q,GL q];exact r g
 .by_cases q:g=f
  .rw[q];exact(rN f y fs).1
  .refine(rN f y fs).2 g (wi g λz=>hg ?_);show sY_=none;rw[GL q];exact z
def Inv.made(I:d!):Inv X J Z (upd (upd H s.heap.objs.size (.own ab!)) ab! (.ins C s.heap.objs.size []))
  {s with heap:=(eM_).push iG_}:=by
 have e1:(eM_).get? o_=some iG!:=HG s.heap rfl;have e2:((eM_).push iG_).get? ab!=some iG_:=by
  have:=HG eM_ (o:=W.instObj C o_) rfl;rwa[MU]at this
 have e3:(eM_).Ns s.heap.objs.size (λ_=>none):=⟨iG!,#[],_,e1,rfl,(λe he=>absurd he c_),eO!⟩;have I1:=I.laid (a:=o_) (o:=.own ab!) (h':=s.heap.push iG!) (t':=s.toks) s0! y_ ⟨_,e1⟩;refine I1.laid (a:=o_+1) (o:=.ins C s.heap.objs.size []) (t':=s.toks) s0! (NS (MU _ _)) ?_;have ne:o_≠o_+1:=IA eO_;refine⟨by rw[aV ne,bP],IP _,ne,e2,λ_=>none,(Heap.Ns1.of_empty e3).at λo q=>GK _ q,λ_=>iK_,λy hy=>absurd rfl hy⟩
def c5e{prog:xR!}{w:xM!}{e:Expr}{f:Str}{pos:Pos}{s:zS!}{Q:p!}(O:attributeBase e f env (eval e env)=eval e env)
  (h:wpAny q_ A (eval e env) (λo aj=>wpAny q_ A (getAttr o f true) Q E aj) E s):wpAny q_ A (eval s2! env) Q E s:=
 Attribute_any_ h (by rw[arm_eval_Attribute,O])
end
def DO(K:zT!)(ta:TE)(f:Str):TE:=λZ H Q=>ta Z H λx H1=>∃a C dx fs v,x=.ref a/\H1 a=some eN_/\Ud K C/\Ef K C f/\fs.lookup f=some v/\Q v H1
def DV(K:zT!)(ta tv:TE)(f:Str):TS:=λD Z H=>tv Z H λy H1=>ta Z H1 λx H2=>∃a C dx fs,x=.ref a/\H2 a=some eN_/\Ud K C/\Ef K C f/\bq!<1000/\
 D.nx Z (upd H2 a sU_)
section
variable{X:Cx}{o e value:Expr}{f:Str}{pos ic tpos:Pos}{ta tv:TE}
def c6y(he:PE X e ta)(O:attributeBase e f X.env ex!=eval e X.env):PE X s2! (DO X.K ta f):=by intro J s Z H Q I h;refine c5e O (cZ cZ! λu s1 ⟨x,H1,I1,rx,a,C,dx,fs,v,ex,ea,c,n,l,q⟩=>?_);subst ex;obtain rfl:u=Value.ref a:=rx;exact b0m I1 ea c n l λu' s2 I2 ru=>⟨v,H1,I2,ru,q⟩
def c6s(ha:mH_)(hv:PE X value tv)(hs:swapsWith value (some (.Attribute o f ic)) pos.line X.env=pure false):PS X (.Assign [.Attribute o f ic] value pos) (DV X.K ta tv f):=by intro J s Z H D I h;refine plainObj_wpAny_Assign_Attribute (cZ (hv J s Z H _ I h) λu s1 ⟨y,H1,I1,ry,q⟩=>cZ (ha J s1 Z H1 _ I1 q) λov s2 ⟨x,H2,I2,rx,a,C,dx,fs,ex,ea,c,n,l,q2⟩=>?_) hs;subst ex;obtain rfl:ov=Value.ref a:=rx;exact a8t I2 ea c n l ry λs3 I3=>⟨Z,_,I3,q2⟩
def c5t{pl:dN_}{m:Str}{ag:Pos}{J:l_}{s:zS!}{Z:St}{H:Hp}{Q:p!}{te:TE}(he:cs!)(I:d!)
  (h:te Z H λx H1=>∃a C dx fs g,x=.ref a/\H1 a=some eN_/\Ud X.K C/\Vw X.K C m g/\fs.lookup m=none/\
   ∀s1,Inv X J Z H1 s1->wpAny e_ X.A (callWith pos (.ref g) bf_ s3_ eP_) Q X.xe s1)
  (ht:eval s5! X.env=(do
   let ov <-eval e X.env
   standAt gm_
   let(f,first) <-holding [ov] gn!
   callWith pos f first s3_ eP_)):
  wpAny e_ X.A (eval s5! X.env) Q X.xe s:=by
 refine W.methodCall_KW (pl:=pl) (cZ cZ! λu s1 ⟨x,H1,I1,rx,a,C,dx,fs,g,ex,ea,c,k,l,q⟩=>?_) ht;subst ex;obtain rfl:u=Value.ref a:=rx;exact oB I1 ea c k l (q s1 I1)
end
end L2
namespace L2
open PySem PySem.Spec PyProof.Rows
structure Ak(k:Nat)(A:xz!):Prop where
 hd:A.handled=none
 dp:A.depth+3*k+5<recursionLimit
 un:A.units+16*k+200<cLine
def Ak.mono{j k:Nat}{A:xz!}(r:gn_)(h:j<=k):Ak j A:=⟨r.hd,by have:=r.dp;omega,by have:=r.un;omega⟩
def Ak.deeper{k:Nat}{A:xz!}(r:Ak P_ A)(env:Env):Ak k (A.deeper env):=
 ⟨r.hd,by have:=r.dp;show A.depth+1+3*k+5<_;omega,by have:=r.un;show A.units+3+16*k+200<_;omega⟩
def Ak.in1{k:Nat}{A:xz!}(r:Ak P_ A):Ak k A.in1:=
 ⟨r.hd,by have:=r.dp;show A.depth+3*k+5<_;omega,by have:=r.un;show A.units+1+16*k+200<_;omega⟩
def b0c{A:xz!}{C:xh!}{kw:dO!}:(iL_).depth=A.depth+1:=by first|rfl|simp[Around.under,Code.weight,Code.isCreation,Code.isGuard,Code.isCaller,Code.frames,Code.isFrame,guardIds]
def b0b{A:xz!}{C:xh!}{kw:dO!}:(iL_).units=A.units+1:=by first|rfl|simp[Around.under,Code.cUnits,Code.frames,Code.isFrame]
def Ak.make{k:Nat}{A:xz!}(r:Ak P_ A)(C:xh!)(us:h_)(kw:dO!):Ak k iL_:=
 ⟨r.hd,by have:=r.dp;rw[b0c];omega,by have:=r.un;rw[b0b];omega⟩
def Ak.depth{k:Nat}{A:xz!}(r:gn_):A.depth<recursionLimit:=by have:=r.dp;omega
def Ak.units{k:Nat}{A:xz!}(r:gn_):A.units+64<cLine:=by have:=r.un;omega
def Ak.units0{k:Nat}{A:xz!}(r:gn_):A.units<cLine:=by have:=r.un;omega
def Zc:TA:=λ_ H Q=>Q [] H
def AN(ta:TE)(tr:TA):TA:=λZ H Q=>ta Z H λx H1=>tr Z H1 λxs H2=>Q (x::xs) H2
section
variable{X:Cx}{e:Expr}{es:List Expr}{te:TE}{t:TA}{pos:Pos}
def fB:PA X [] Zc:=λ_ _ _ _ H Q I h=>NI ⟨[],H,I,.nil,h⟩
def dC(ha:cs!)(hr:go!)(hs:ak_:=by rfl):PA X aK! (AN te t):=by intro pos J s Z H Q I h;rw[hs];show wpAny _ _ (spliced (eQ!::backTo pos lG_)) _ _ s;refine LC (cZ bX_ λu s1 ⟨x,H1,I1,r1,q1⟩=>?_);exact cZ (hr pos J s1 Z H1 _ I1 q1) λus s2 ⟨xs,H2,I2,r2,q2⟩=>⟨x::xs,H2,I2,.cons r1 r2,q2⟩
def DC(t:TA):TE:=λZ H Q=>t Z H λxs H1=>i_<=sizeLine/\∀p,H1 p=none->Q c5! (upd H1 p bF!)
def DK(t:TA):TE:=λZ H Q=>t Z H λxs H1=>i_<=sizeLine/\∀p,H1 p=none->Q c5! (upd H1 p J_)
def b7z {x1}(h:go!):PE X s6! (DC t):=by intro J s Z H Q I hq;refine wpAny_Tuple_spliced s6_;have hf:H1 y!=none:=I1.hok.fresh y_;refine⟨.ref y!,upd H1 s1.heap.objs.size bF!,s7_,rfl,q _ hf⟩;exact⟨z,us,r,⟨_,dJ_,rfl,_,rfl⟩⟩
def a1j(h:go!):PE X mJ! (DK t):=by intro J s Z H Q I hq;refine wpAny_List_spliced s6_;have hf:H1 y!=none:=I1.hok.fresh y_;refine⟨.ref y!,upd H1 s1.heap.objs.size J_,s7_,rfl,q _ hf⟩;exact⟨z,us,0,r,dJ_⟩
end
abbrev Sp:=List V->Hp->VK->XK->Prop
abbrev Vz:=List Env->Hp->Shared->XK->Value->Shared->Prop
structure Qz(P:xR!)(w:xM!)(K:zT!)(mg:B_)(base:Heap)(A:xz!)(outer:aq_)(s:zS!)(H:Hp):Prop where
 frames:A.frames=some outer
 mod:Mod K mg base
 bs:∀b o,base.get? b=some o->s.heap.get? b=some o/\H b=none
 bsz:base.objs.size<=o_
 funs:s.heap.FunFrames base outer
 frf:∀b∈frs outer,H b=none
 hok:Nz P w H s.heap
 bare:AllBare s.gens
def CE(outer:aq_)(P:xR!)(w:xM!)(H:Hp)(s:zS!)(Q:VK)(u:xL!)(s':zS!):Prop:=
 ∃v H',s'.os=s.os/\AllBare s'.gens/\Un (frs outer) [] H H' s.heap s'.heap/\Nz P w H' s'.heap/\Bp v u/\Q v H'
def CR(CX:Vz)(outer:aq_)(P:xR!)(w:xM!)(H:Hp)(s:zS!)(Q:VK)(E:XK)(r:Result)(s':zS!):Prop:=
 match r with
 |.ok (.ret u)=>CE outer P w H s Q u s'
 |.ok _=>False
 |.error e=>CX outer H s E e s'
structure Fk(P:xR!)(w:xM!)(K:zT!)(mg:B_)(base:Heap)(CX:Vz)(k:Nat)(f:xh!)(fd:FuncData)(ps:j_)(sp:Sp):Prop where
 len:∀vs H Q E,sp vs H Q E->bx_=S!
 run:∀(A:xz!) (outer:aq_) (s:zS!) (H:Hp) (args:Args) (us:h_) (vs:k!) (Q:VK) (E:XK),Ak k A->Qz P w K mg base A outer s H->BindsTo s fd args c5_->Ba vs us->sp vs H Q E->
  codeAny L! A (.call ae_ args) (CR CX outer P w H s Q E) s
def Fk.mono{P:xR!}{w:xM!}{K:zT!}{mg:B_}{base:Heap}{CX:Vz}{j k:Nat}{f:xh!}{fd:FuncData}{ps:j_}{sp:Sp}(F:Fk P w K mg base CX j f fd ps sp)(h:j<=k):
  Fk P w K mg base CX k f fd ps sp:=⟨F.len,λA outer s H args us vs Q E hr=>F.run A outer s H args us vs Q E (hr.mono h)⟩
def Fk.imp{P:xR!}{w:xM!}{K:zT!}{mg:B_}{base:Heap}{CX:Vz}{k:Nat}{f:xh!}{fd:FuncData}{ps:j_}{sp SF:Sp}(F:Fk P w K mg base CX k f fd ps sp)
  (h:∀vs H Q E,SF vs H Q E->sp vs H Q E):Fk P w K mg base CX k f fd ps SF:=
 ⟨λvs H Q E q=>F.len vs H Q E (h _ _ _ _ q),λA outer s H args us vs Q E hr he O hv hs=>F.run A outer s H args us vs Q E hr he O hv (h _ _ _ _ hs)⟩
def Qz.make{P:xR!}{w:xM!}{K:zT!}{mg:B_}{base:Heap}{A:xz!}{outer:aq_}{s:zS!}{H:Hp}(e:mK_)(C:xh!)(us:h_)(kw:dO!):
  Qz P w K mg base iL_ outer s H:=⟨by first|exact e.frames|(simpa[Around.under,Code.envs,Code.isFrame,pushEnvs]using e.frames),e.mod,e.bs,e.bsz,e.funs,e.frf,e.hok,e.bare⟩
def Qz.in1{P:xR!}{w:xM!}{K:zT!}{mg:B_}{base:Heap}{A:xz!}{outer:aq_}{s:zS!}{H:Hp}(e:mK_):
  Qz P w K mg base A.in1 outer s H:=⟨e.frames,e.mod,e.bs,e.bsz,e.funs,e.frf,e.hok,e.bare⟩
section
variable{X:Cx}{J:List (Addr×Obj)}{Z:St}{H:Hp}{s s':zS!}
def Inv.env0(I:d!):Qz X.prog X.w X.K X.mg X.base X.A X.stack s H:=
 ⟨I.ok.frames,I.ok.mod,I.bs,HR I.ok.bsz I.sz,I.stack,I.stkFree,I.hok,I.bare⟩
def Inv.after{Q:VK}{u:xL!}(I:d!)(h:CE X.stack X.prog X.w H s Q u s'):EP X J Z Q u s':=by obtain⟨v,H',os,bare,un,hok,r,q⟩:=h;obtain⟨hh,g,d,t,WV⟩:=s';obtain rfl:WV=s.os:=os;exact⟨v,H',I.call (h':=hh) (g':=g) (d':=d) (t':=t) (ch:=[]) un hok bare (λb z=>absurd z c_),r,q⟩
end
def AO(sp:Sp)(dvs:k!)(E:XK)(t:TA):TE:=λZ H Q=>t Z H λvs H1=>sp c6! H1 Q E
def Yk(C:xh!)(m:Str)(sp:Sp)(dvs:k!)(E:XK)(ta:TE)(t:TA):TE:=λZ H Q=>ta Z H λx H1=>∃a dx fs,x=.ref a/\H1 a=some eN_/\fs.lookup m=none/\
 t Z H1 λvs H2=>sp (x::c6!) H2 Q E
def Yl(C:xh!)(sp:Sp)(dvs:k!)(E:XK)(t:TA):TE:=λZ H Q=>t Z H λvs H1=>∀x dx,H1 x=none->H1 dx=none->dx≠x->
 sp (.ref x::c6!) mM! tc_ E
def Ez(K:zT!)(fd:FuncData)(ps:j_)(ds:h_):Prop:=
 ∀(s:zS!) (us:h_),K.In s.heap->(eQ_).length=S!->BindsTo s fd c6_ (ps.zip eQ_)
def Ez.all{K:zT!}{fd:FuncData}{ps:j_}(h:∀us:List Value,ap_=S!->bindArgs fd c6_=pure c5_):Ez K fd ps []:=λs us _ hl=>by
 rw[HP]at hl ⊢;exact .of_eq (h us hl)
def Lq(CX:Vz)(X:Cx)(E:XK):Prop:=∀(J:l_) (Z:St) (H:Hp) (s:zS!) (e:xL!) (s':zS!),Inv X J Z H s->CX X.stack H s E e s'->X.xe e s'
section
variable{X:Cx}{CX:Vz}{k:Nat}{f C:xh!}{fd:FuncData}{ps:List Str}{sp:Sp}{dvs:List V}{ds:List Value}{E:XK}{x m:Str}{p pos ag:Pos}{e o:Expr}{es:List Expr}{ta:TE}{t:TA}
def a1e{J:l_}{Z:St}{H:Hp}{s:zS!}{Q:VK}(F:dP_)(hr:b5!)(O:dQ!)(hd:dQ_)(L:dR!)
  (I:d!)(r:ex_)(h:sp c6! H Q E):wpAny e_ X.A (call ae_ us) aJ! X.xe s:=by
 have r2:Ba c6! eQ_:=r.append hd;have hl:(eQ_).length=S!:=by rw[<-r2.length];exact F.len _ _ _ _ h
 refine wpAny_call (QB (F.run X.A X.stack s H c6_ eQ_ c6! Q E hr I.env0 (O s us I.kIn hl) r2 h) λr s' hq=>?_);cases r with
 |error e=>exact L J Z H s e s' I hq
 |ok fl=>
  cases fl with
  |ret u=>exact I.after hq
  |next=>exact False.elim hq
  |brk=>exact False.elim hq
  |cont=>exact False.elim hq
def b2d(F:dP_)(hr:b5!)(hg:R!)(hm:X.mg x=some ae_)(hk:W.keepIn X.K ae_=true)(O:dQ!)(hd:dQ_)(L:dR!)
  (ha:eR_)(be:F!:=by decide)(he:ak_:=by rfl)(av:aT!:=by rfl):
  PE X bg! (AO sp dvs E t):=by
 show"!F";refine KY mN!;refine W.callWith_K (h₀:=X.base) I.ok.mod.kin hk te_ he av;exact a1e F hr O hd L I1 r q
def c2w{pl:dN_}(he:mH_)(c:dO_)(hm:Vw X.K C m f)(F:dP_)(hr:b5!)(O:dQ!)(hd:dQ_)(L:dR!)(ha:eR_)
  (bz:ak_:=by rfl)(av:aT!:=by rfl)
  (ht:eval iP! X.env=(do
   let ov <-eval o X.env
   standAt gm_
   let(f,first) <-holding [ov] gn!
   callWith pos f first th! eP_):=by rfl):
  PE X iP! (Yk C m sp dvs E ta t):=by
 show"!<";refine W.callWith_K (first:=bf_) (h₀:=X.base) I.ok.mod.kin hm.kp (cZ (ha pos J s1 Z H1 _ I1 q) λus s2 ⟨vs,H2,I2,r,q2⟩=>th_) bz av;exact a1e (us:=.ref a::us) (vs:=.ref a::vs) F hr O hd L I2 (.cons rfl r) q2
def b8d{pl:dN_}(he:mH_)(c:dO_)(hm:Vw X.K C m f)(F:dP_)(hr:b5!)(O:dQ!)(hd:dQ_)(L:dR!)
  (ht:eval iQ_ X.env=(do
   let ov <-eval o X.env
   standAt gm_
   let(f,first) <-holding [ov] gn!
   callWith pos f first mN_ eP_):=by rfl):
  PE X iQ_ (Yk C m sp dvs E ta Zc):=by
 show"!<";exact W.callWith_K0 (first:=bf_) I1.kIn hm.kp (a1e (us:=bf_) (vs:=bf_) F hr O hd L I1 tj! q)
structure Mk(K:zT!)(C f:xh!):Prop where
 makes:W.makesIn K C=true
 init:W.findIn K au! "__init__"=some eM!
 fn:W.isFn K ae_=true
 kp:W.keepIn K au!=true
def a5e{J:l_}{Z:St}{H:Hp}{s:zS!}{Q:VK}(M:mO!)(F:dP_)(hr:gq_)(O:dQ!)(hd:dQ_)
  (L:dR!)(I:d!)(r:ex_)
  (h:∀x dx,H x=none->H dx=none->dx≠x->sp (.ref x::c6!) (upd (upd H dx hR!) x mL_) tc_ E):
  wpAny e_ X.A (call au! us) aJ! X.xe s:=by
 have hq:=h ab! s.heap.objs.size tk_ gr! (IA eO_);have I2:=Inv.made (C:=C) I;have r2:Ba (V.ref ab!::c6!) tl!:=.cons rfl (r.append hd);have hl:(Value.ref ab!::us++ds).length=S!:=by
  have e:=r2.length;rw[F.len _ _ _ _ hq]at e;exact e.symm
 refine wpAny_call (b9i (f:=f) I.kIn M.makes M.init (LU.mp M.fn) (QB (F.run _ X.stack _ _ ⟨Value.ref ab!::us,[]⟩ tl! _ _ E (hr.make C us [])
  (I2.env0.make C us []) (O _ (Value.ref ab!::us) I2.kIn hl) r2 hq) λr s' a8=>?_))
 cases r with
 |error e=>exact L J Z _ _ e s' I2 a8
 |ok fl=>
  cases fl with
  |ret u=>
   obtain⟨v,H',I3,rv,ev,q3⟩:=I2.after a8;subst ev;exact⟨rv,⟨V.ref ab!,H',I3,rfl,q3⟩⟩
  |next=>exact False.elim a8
  |brk=>exact False.elim a8
  |cont=>exact False.elim a8
def c2x(M:mO!)(F:dP_)(hr:gq_)(hg:R!)(hm:tn_)(O:dQ!)(hd:dQ_)(L:dR!)
  (ha:eR_)(be:F!:=by decide)(he:ak_:=by rfl)(av:aT!:=by rfl):
  PE X bg! (Yl C sp dvs E t):=by
 show"!F";refine KY mN!;refine W.callWith_K (h₀:=X.base) I.ok.mod.kin M.kp te_ he av;exact a5e M F hr O hd L I1 r q
def b8e(M:mO!)(F:dP_)(hr:gq_)(hg:R!)(hm:tn_)(O:dQ!)(hd:dQ_)(L:dR!)
  (be:F!:=by decide):PE X to! (Yl C sp dvs E Zc):=by
 show"!F";refine KY mN!;exact W.callWith_K0 I.kIn M.kp (a5e (us:=[]) M F hr O hd L I .nil h)
end
structure Aj(N P:j_)(sc:Scope):Prop where
 kind:sc.kind=.function
 co:sc.isCoroutine=false
 gen:sc.isGenerator=false
 nd:N.Nodup
 pre:N.take P.length=P
 par:∀x∈P,sc.names.lookup x=some .local\/sc.names.lookup x=some .cell
 nofree:∀y∈sc.names,y.2≠.free
def a0f{kindOf:iR_}{x:Str}:∀{binds:dO!} {m:B_},to_->bindL kindOf binds m x=m x
 |[],_,_=>rfl
 |(n,v)::r,m,h=>by
  unfold bindL;rw[a0f λw hw=>h w (GI _ hw)];split
  .have:x≠n:=by rintro rfl;exact h v GO
   simp[this]
  .rfl
def a0h{kindOf:iR_}{x:Str}:∀{binds:dO!} {m:B_},to_->bindC kindOf binds m x=m x
 |[],_,_=>rfl
 |(n,v)::r,m,h=>by
  unfold bindC;rw[a0h λw hw=>h w (GI _ hw)];split
  .rfl
  .have:x≠n:=by rintro rfl;exact h v GO
   simp[this]
def a0g{kindOf:iR_}{x:Str}{v:xL!}:∀{P:j_} {vs:h_} {i:Nat} {m:B_},P.Nodup->P[i]?=some x->vs[i]?=some v->kindOf x=some .local->
  bindL kindOf (P.zip vs) m x=some v
 |[],_,_,_,_,h,_,_=>by simp at h
 |_::_,[],_,_,_,_,h,_=>by simp at h
 |p::P,w::vs,0,m,nd,B,Y,hk=>by
  simp at B Y;subst B;subst Y;show bindL kindOf iS! m p=_;unfold bindL;rw[a0f λv hv=>(iS_).1 (QV hv).1,a4!];simp
 |p::P,w::vs,i+1,m,nd,B,Y,hk=>by
  show bindL kindOf iS! m x=_;unfold bindL;exact a0g (i:=i) (iS_).2 tq! tq_ hk
def a0i{kindOf:iR_}{x:Str}{v:xL!}:∀{P:j_} {vs:h_} {i:Nat} {m:B_},P.Nodup->P[i]?=some x->vs[i]?=some v->kindOf x≠some .local->
  bindC kindOf (P.zip vs) m x=some v
 |[],_,_,_,_,h,_,_=>by simp at h
 |_::_,[],_,_,_,_,h,_=>by simp at h
 |p::P,w::vs,0,m,nd,B,Y,hk=>by
  simp at B Y;subst B;subst Y;show bindC kindOf iS! m p=_;unfold bindC;rw[a0h λv hv=>(iS_).1 (QV hv).1,aD_];simp
 |p::P,w::vs,i+1,m,nd,B,Y,hk=>by
  show bindC kindOf iS! m x=_;unfold bindC;exact a0i (i:=i) (iS_).2 tq! tq_ hk
def Mi(N:j_)(vs:k!):St:=vs.map some++List.replicate (iT! - bx_) none
def Om(CX:Vz)(P:xR!)(w:xM!)(K:zT!)(mg:B_)(base:Heap)(N:j_)(qual:Str)(scope:Scope)(f:xh!)(cd:xL!)(A:xz!)(outer:aq_)(s:zS!)(H:Hp)(E:XK):Cx where
 prog:=P
 w:=w
 K:=K
 mg:=mg
 base:=base
 A:=A.deeper gs!
 N:=N
 s₀:=s
 H₀:=H
 env:=envOfC qual scope s.heap.objs.size f cd
 outer:=outer
 stack:=envOfC qual scope s.heap.objs.size f cd::outer
 ex:=[]
 calm:=true
 fn:=λ_=>true
 pn:=[]
 xe:=λe s'=>wpAny L! (A.deeper gs!) (leaving gs! e) (λ_ xm=>CX outer H s E e xm) (λe' xm=>CX outer H s E e' xm) s'
def a7z{sc:Scope}{n:Nat}{x:Str}(h:sc.names.lookup x=some .cell):∃c,(cellsFrom n sc.names []).lookup x=some c:=by have q:=W.cellsFrom_some sc.names n [] ia_;exact OE.mp q
def b5k{CX:Vz}{P:xR!}{w:xM!}{K:zT!}{mg:B_}{base:Heap}{ps:j_}{scope:Scope}{f:xh!}{A:xz!}{outer:aq_}{s:zS!}{H:Hp}{E:XK}{vs:k!}
  (S:Aj N ps scope)(hd:eS!)(e0:mK_)(hl:bx_=S!)(r:ex_)
  (x:InCallC s s.heap.objs.size (bindL (gs!).kindOf c5_ λ_=>none) tr_ (bindC (gs!).kindOf c5_ λ_=>none) s1):
  Inv ts! [] gs_ H s1:=by
 have av:S!<=iT!:=by have:=congrArg List.length S.pre;rw[OK]at this;omega
 obtain⟨B,tk,rfl,hk⟩:=x.done;have q8:∀b:Addr,b∉(ts!).ex:=λb z=>absurd tt! c_;refine⟨⟨e0.mod,S.kind,rfl,rfl,HD _,λy z c B Y=>?_,λy hy=>?_,λy c _ h=>?_,λ_=>hd,Around.frames_deeper e0.frames,.inr bI_,tt_,e0.bs,e0.bsz,λb _ _=>q8 b,tt_,e0.funs,e0.frf⟩,
  rfl,e0.bare,Un.kept hk,⟨_,x.toInCall.ns,λi y v B Y h3=>?_⟩,λy c h=>⟨_,x.cell y c h⟩,e0.hok.fresh y_,λy c h=>?_,λp hp=>absurd (show p∈([]:List et_)from hp) c_,e0.hok.kept hk,?_⟩
 .exact name_of_addr x.apart (KB B) (KB Y)
 .have hy:scope.names.lookup y=some .cell\/scope.names.lookup y=some .free:=hy;obtain hy|hy:=hy
  .exact a7z hy
  .exact absurd rfl (S.nofree _ (KB hy))
 .exact LL tv!
 .have hi:i<bx_:=by
   unfold Mi at Y;by_cases hi:i<bx_
   .exact hi
   .rw[eS_]at Y;rw[MN]at Y;split at Y<;>cases Y
  have ha:vs[i]?=some v:=by
   unfold Mi at Y;rw[JH gt!,HY]at Y;cases e:vs[i]? with
   |none=>rw[e]at Y;cases Y
   |some a=>rw[e]at Y;cases Y;rfl
  obtain⟨u,hu,rv⟩:=r.get ha;have hp:ps[i]?=some y:=by
   rw[<-S.pre,List.getElem?_take_of_lt a!];exact B
  have SG:ps.Nodup:=by rw[<-S.pre];exact S.nd.sublist (List.take_sublist _ _)
  refine⟨u,rv,?_⟩;obtain k|k:=S.par y (NH hp)
  .exact .inl ⟨k,a0g SG hp hu k⟩
  .obtain⟨c,e⟩:=a7z (n:=o_+1) k;refine .inr ⟨.inl k,c,e,?_⟩;have q:=x.cell y c e;rw[a0i SG hp hu (by show scope.names.lookup y≠_;rw[k];decide)]at q;exact q
 .exact e0.hok.fresh (LL tv!)
 .unfold Mi;show _=iT!;rw[GW,GX,LO];omega
def d1l{CX:Vz}{P:xR!}{w:xM!}{K:zT!}{mg:B_}{base:Heap}{k:Nat}{f:xh!}{name:Str}{params:Arguments}{body:bG_}{kV:xL!}{an od:a4_}
  {dt:b6!}{ps:j_}{sp:Sp}(lk:K.lookup f=some ⟨oc,od,.func tw_,dt⟩)(bv:iV!)(S:Aj N ps scope)
  (len:tx!)
  (ph:∀(A:xz!) (outer:aq_) (s:zS!) (H:Hp) (vs:k!) (Q:VK) (E:XK),Ak k (A.deeper (envOfC qual scope s.heap.objs.size f ae))->sp vs H Q E->
   ∃t,Tz mQ! body t/\t {nx:=λ_ H'=>Q .non H',rt:=Q} gs_ H):
  Fk P w K mg base CX P_ f tw_ ps sp:=by
 refine⟨len,λA outer s H args us vs Q E hr e0 O r jc=>?_⟩;have hl:=len _ _ _ _ jc;have KX:K.In s.heap:=e0.mod.kin.keeps λb o e=>(e0.bs b o e).1;have ax:s.heap.NoLimit:=e0.mod.nolimit.keeps λb o e=>(e0.bs b o e).1;have ce:∀y∈ps.zip us,scope.names.lookup y.1=some .local\/(scope.names.lookup y.1=some .cell/\((tr_).lookup y.1).isSome=true):=λ⟨n,v⟩ hy=>by
  obtain q|q:=S.par n (QV hy).1
  .exact .inl q
  .exact .inr ⟨q,W.cellsFrom_some _ _ _ (.inl q)⟩
 refine codeAny_call_function hr.depth (KX _ _ lk) rfl S.co S.gen rfl (W.codeRec_of KX bv) (O _ _ _ _ ?_);refine wpAny_newFunctionEnv_cells S.kind ce λenv he s1 x=>?_;subst he;refine⟨ax.keeps x.toInCall.keep,codeAny_func ?_⟩;obtain⟨t,ht,hq⟩:=ph A outer s H vs Q E (hr.deeper _) jc;have I:Inv mQ! [] gs_ H s1:=b5k S hr.hd e0 hl r x;refine JJ (ht [] s1 gs_ H _ I hq) (λfl s' hs=>?_) λe s' hs=>hs;have fin:∀{hx:St} {H':Hp} {v:V} {u:xL!},Inv mQ! [] hx H' s'->Bp v u->Q v H'->CE outer P w H s Q u s':=
  λ{hx H' v u} ac rv q=>⟨v,H',ac.os,ac.bare,ac.base,ac.hok,rv,q⟩
 cases fl with
 |ret u=>
  obtain⟨v,hx,H',ac,rv,q⟩:=hs;exact fin ac rv q
 |next=>
  obtain⟨hx,H',ac,q⟩:=hs;exact fin (v:=V.non) (u:=dz!) ac rfl q
 |brk=>
  obtain⟨_,_,_,q⟩:=hs;exact False.elim q
 |cont=>
  obtain⟨_,_,_,q⟩:=hs;exact False.elim q
end L2
namespace L2
open PySem PySem.Spec PyProof.Rows
section
variable{X:Cx}{x:Str}{p pos:Pos}{e:Expr}{es:List Expr}{t:TA}{id T:String}{r:List V->Hp->VK->Prop}
def EZ(r:ct_)(t:TA):TE:=λZ H Q=>t Z H λvs H1=>r vs H1 Q
def vM(hc:mQ_)(hg:R!)(hm:cr!)(hv:mR!)(ha:eR_)(hn:cr_:=by decide)(be:F!:=by decide)
  (he:ak_:=by rfl)(av:aT!:=by rfl):PE X bg! (EZ r t):=by
 show"!F";refine KY tC!;exact PyProof.Rows.callWith_builtin1 tC_ he av
def zB(hc:mR_)(hg:R!)(hm:cr!)(hv:iV_)(ha:eR_)(hn:cr_:=by decide)(be:F!:=by decide)
  (he:ak_:=by rfl)(av:aT!:=by rfl):PE X bg! (EZ r t):=by
 show"!F";refine KY tC!;exact JB tC_ he av
end
end L2
namespace HT
open PySem PyProof.Rows
nonrec def lexLt:List Int->List Int->Bool
 |[],[]=>false
 |[],_::_=>true
 |_::_,[]=>false
 |x::xs,y::ys=>if x=y then lexLt xs ys else decide (x<y)
def lexLt_cons(x y:Int)(xs ys:D!):lexLt (x::xs) (y::ys)=if x=y then lexLt xs ys else decide (x<y):=rfl
def lexLt_nil_nil:lexLt [] []=false:=rfl
def wC(y:Int)(ys:D!):lexLt [] (y::ys)=true:=rfl
def wD(x:Int)(xs:D!):lexLt (x::xs) []=false:=rfl
def c0m(A:xz!)(s:zS!)(a:Int)(t:Tok)(c:Int)(u:Tok):∃e,SeqAt.EqAt A s gt_ mS! e/\(e=true↔a=c):=
 ⟨(a==c),OI a t c u,H!⟩
section
open PySem.SeqAt
open PySem.AutoSeq1 (wpAny_loadPart')
open PySem.MeetsSeq PySem.MeetsSeq2 PySem.MeetsSeq3
end
section
variable{prog:xR!}{w:xM!}{A:xz!}{E:Value->Shared->Prop}{s:zS!}
def cat_tup{t b:xh!}{vs ws:h_}{Q:p!}(ht:IsTup s.heap t cx!)(O:IsTup s.heap b ws.toArray)(hv:vs≠[])
  (B:ws=[]->Q iW! s)(Y:ws≠[]->Q c1_ {s with heap:=s.heap.push {cls:=.type "tuple",data:=.seq (vs++ws).toArray}})
  (hsz:bx_+mS_<=sizeLine):wpAny q_ A (binaryOp .Add iW! dS!) Q E s:=by
 obtain⟨⟨cls,dd,data,sl⟩,ho,hc,n,hd⟩:=id ht;obtain⟨⟨SH,lf,data2,jd⟩,je,jf,n2,jg⟩:=id O;simp only at hc hd jf jg;subst hc hd jf jg;have e:cx!++ws.toArray=(vs++ws).toArray:=by simp
 by_cases hw:ws=[]
 .exact concat_meets iX_ iY! noFill_tuple_add seq_tuple_add ON OG (OD _ _)
   (tuple_addW1 t b vs.toArray ws.toArray n n2 dd lf sl jd iY_ (by simp[hw])) ⟨ho,je,B hw⟩
 .refine concat_meets iX_ iY! noFill_tuple_add seq_tuple_add ON OG (OD _ _)
   (tuple_addW2 t b vs.toArray ws.toArray n n2 dd lf sl jd iY_ mT! (by rw[GQ,GQ];exact hsz)) ⟨ho,je,?_⟩
  rw[e];exact Y hw
nonrec def sIx(n d:Nat):Option Int->Nat
 |none=>d
 |some v=>if v<0 then(mU!).toNat else min v.toNat n
def sIx_none(n d:Nat):sIx n d none=d:=rfl
def sIx_nat(n d k:Nat):sIx n d (some (k:Int))=min k n:=by show(if(k:Int)<0 then((k:Int)+(n:Int)).toNat else min (k:Int).toNat n)=min k n;rw[GL a!,LB]
def c6l(n d:Nat)(hd:d<=n)(o:a5!):sIx n d o<=n:=by
 cases o with
 |none=>exact hd
 |some v=>
  show tG!<=n;by_cases hv:v<0
  .rw[GU hv];omega
  .rw[GL hv];exact Nat.min_le_right _ _
def b3o(v:Int)(n d:Nat):tG_=((sIx n d dC!:Nat):Int):=by
 show tG_=((tG!:Nat):Int);by_cases hv:v<0
 .simp only[GU hv];omega
 .simp only[GL hv];omega
def b1a(lo hi:a5!)(n:Nat):Builtin.Slice.sliceAdjust lo hi 1 (n:Int)=(iZ!,tI_):=by
 have B:¬((1:Int)<0):=by omega
 unfold Builtin.Slice.sliceAdjust;simp only[B,IB];refine Prod.ext ?_ ?_
 .cases lo with
  |none=>rfl
  |some v=>exact b3o v n 0
 .cases hi with
  |none=>rfl
  |some v=>exact b3o v n n
def a9i(i j:Nat):Builtin.Slice.slicePlaces (i:Int) (j:Int) 1=j - i:=by
 unfold Builtin.Slice.slicePlaces;have B:(1:Int)>0:=by omega
 simp only[B,IL,Int.ediv_one];split<;>omega
def uV{v:xL!}{o:a5!}{Q:Option Int->Shared->Prop}(p:IsPart v o)(h:Q o s):wpAny q_ A (Builtin.Slice.slicePartIndex v) Q E s:=by
 cases p with
 |none=>exact slicePart_none h
 |int i t=>exact slicePart_int h
def qL{lo hi:a5!}{n:Nat}{Q:Int×Int×Nat->Shared->Prop}(hs:tJ_)(pl:IsPart vl lo)(pu:IsPart vu hi)
  (h:Q (iZ!,1,sIx n n hi - sIx n 0 lo) s):wpAny q_ A (Builtin.Slice.sliceApplied i0! (pure (n:Int))) Q E s:=by
 obtain⟨os,mv,pi,vg⟩:=id hs;unfold Builtin.Slice.sliceApplied Builtin.Slice.sliceFields;refine GF (GF (JT mv vg (x:=vl) rfl (GF (JT mv vg (x:=vu) rfl (GF (JT mv vg (x:=.none) rfl ab_))))));refine GF (slicePart_none ?_);show wpAny _ _ (if((1:Int)==0)=true then _ else _) _ _ s;rw[GL c!];refine GF (uV pl (GF (uV pu (GF ab_))));show wpAny _ _ (match Builtin.Slice.sliceAdjust lo hi 1 (n:Int)with|(lo,hi)=>pure (lo,(1:Int),Builtin.Slice.slicePlaces lo hi 1)) _ _ s;rw[b1a lo hi n];show wpAny _ _ (pure (iZ!,(1:Int),Builtin.Slice.slicePlaces iZ! tI_ 1)) _ _ s;rw[a9i];exact GH h
def b7w(xs:aa!)(i k:Nat):((List.range k).filterMap λ(m:Nat)=>xs[(mW_).toNat]?).toArray=((xs.toList.drop i).take k).toArray:=by
 have e:(λ(m:Nat)=>xs[(mW_).toNat]?)=λm=>xs[i+m]?:=by
  funext m;have:(mW_).toNat=i+m:=by omega
  rw[this]
 rw[e];have:=pick_run xs i k;rw[List.filterMap_map]at this;have e2:((λx=>xs[x]?)∘λx=>i+x)=λm=>xs[i+m]?:=rfl;rw[e2]at this;rw[this]
def getItem_tuple_cut{t:xh!}{items:aa!}{lo hi:a5!}{Q:p!}(ht:IsTup s.heap t items)(hs:tJ_)(pl:IsPart vl lo)(pu:IsPart vu hi)
  (hw:¬(sIx items.size 0 lo=0/\sIx items.size items.size hi=c8!))
  (h:Q c1_ {s with heap:=s.heap.push {cls:=.type "tuple",data:=.seq (mX!).toArray}})
  (hsz:c8!<=sizeLine):wpAny q_ A (getItem iW! i0!) Q E s:=by
 have vh:sizeOk (.seq (mX!).toArray):=by
  show(mX!).toArray.size<=sizeLine;rw[GQ,OK,QO,IR];omega
 have hj:sIx items.size items.size hi<=c8!:=c6l _ _ y_ hi;obtain⟨os,mv,pi,vg⟩:=id hs;have WW:s.TypeIs i0! "slice":=⟨os,mv,pi⟩;unfold getItem
 try with_reducible refine IJ ?_
 first|refine GF ab_|skip
 refine GF (wpAny_sequenceKey ht.typeIs c! ?_);refine GF (IW (name:=tS!) ht.typeIs MY
  (IE MY ht.typeIs entry_tuple_getitem ?_ (args_tuple_getitem _ _)))
 show wpAny _ _ (Builtin.Tuple.tupleItemsOf iW!>>=_) _ _ s;refine GF (tupleItemsOf_ ht ?_);refine GF (wpAny_typeOf WW ?_);rw[GU c!];refine GF (qL hs pl pu ?_);have WX:¬(tT_=true):=by
  intro q;rw[HK,HK]at q;have q1:tU!=0:=eq_of_beq q.1.1;have q2:sIx items.size items.size hi - sIx items.size 0 lo=c8!:=eq_of_beq q.2;exact hw ⟨r!,r!⟩
 show wpAny _ _ (if tT_=true then _ else _) _ _ s;rw[GL WX,b7w]
 first
  |exact GF (m:=i0_) (JN i1_ vh)
  |exact GF (m:=i0_) (JN (GF (GH i1_)) vh)
  |exact GF (GF (m:=i0_) (JN (GH i1_) vh))
  |exact GF (GF (m:=i0_) (JN i1_ vh))
end
end HT
namespace L2
open PySem PySem.Spec PyProof.Rows
abbrev TO:=St->Hp->(Option Int->Hp->Prop)->Prop
def PO(X:Cx)(e:mY!)(t:TO):Prop:=
 ∀(J:l_) (s:zS!) (Z:St) (H:Hp) (Q:tW!),Inv X J Z H s->t Z H Q->
  wpAny e_ X.A (evalPart e X.env) (λu s'=>∃o H',Inv X J Z H' s'/\IsPart u o/\Q o H') X.xe s
def Xj:TO:=λ_ H Q=>Q none H
def AJ(t:TE):TO:=λZ H Q=>t Z H λx H1=>∃i,x=.int i/\Q (some i) H1
def wS{ns:D!}:∀{us:h_},Ba b6_ us->IntsAre us ns:=by
 induction ns with
 |nil=>intro us r;rw[LN]at r;cases r;exact .nil
 |cons n ns ih=>
  intro us r;rw[GM]at r;cases r with
  |cons r1 r2=>
   obtain⟨t,e⟩:=r1;subst e;exact .cons n t (ih r2)
section
variable{X:Cx}{e:Expr}{te:TE}{lo hi:Option Expr}{tl th:TO}{pos p2:Pos}
def c2s:PO X none Xj:=by intro J s Z H Q I h;rw[evalPart_none];exact GH ⟨none,H,I,.none,h⟩
def c2r(h:cs!):PO X ic_ (AJ te):=by intro J s Z H Q I hw;rw[evalPart_some];refine cZ lN_ λu s1 ⟨x,H1,I1,r1,q1⟩=>?_;obtain⟨i,rfl,q⟩:=q1;obtain⟨t,rfl⟩:=r1;exact⟨M!,H1,I1,.int i t,q⟩
def Yd(X:Cx)(r:i2!):Prop:=
 ∀(J:l_) (s:zS!) (Z:St) (H:Hp) (x:V) (v vl vu:xL!) (lo hi:a5!) (sl:xh!) (Q:VK),Inv X J Z H s->Bp x v->s.heap.IsSliceOf sl vl vu .none->IsPart vl lo->IsPart vu hi->r x lo hi H Q->
  ∃T id,typeLookup eT_ "__getitem__"=pure (some eT!)/\s.TypeIs v T/\wpAny e_ X.A (getItem v i0!) aJ! X.xe s
def Yd.or{r r':i2!}(h:Yd X r)(h':Yd X r'):Yd X (λx lo hi H Q=>r x lo hi H Q\/r' x lo hi H Q):=by
 intro J s Z H x v vl vu lo hi sl Q I rx hs pl pu q;obtain q|q:=q
 .exact h J s Z H x v vl vu lo hi sl Q I rx hs pl pu q
 .exact h' J s Z H x v vl vu lo hi sl Q I rx hs pl pu q
def FP(r:i2!)(te:TE)(tl th:TO):TE:=λZ H Q=>te Z H λx H1=>tl Z H1 λl H2=>th Z H2 λu H3=>r x l u H3 Q
def a5r{r:i2!}(hr:Yd X r)(he:cs!)(hl:PO X lo tl)(hu:PO X hi th):PE X (.Subscript e mZ! pos) (FP r te tl th):=by intro J s Z H Q I h;refine Subscript_ rA_;refine wpAny_Slice (cZ (hl J s1 Z H1 _ I1 q1) λvl s2 ⟨l,H2,I2,pl,q2⟩=>cZ (hu J s2 Z H2 _ I2 q2) λvu s3 ⟨u,H3,I3,pu,q3⟩=>?_);rw[evalPart_none];refine GH ?_;have I4:Inv X J Z H3 {s3 with heap:=s3.heap.push {cls:=.type "slice",data:=.fields #[vl,vu,.none]}}:=I3.kept (t':=s3.toks) λb ob q=>GK _ q;obtain⟨T,id,hT,ht,hg⟩:=hr J {s3 with heap:=s3.heap.push {cls:=.type "slice",data:=.fields #[vl,vu,.none]}} Z H3 x v vl vu l u s3.heap.objs.size Q I4 r1 (Heap.IsSliceOf.new ..) pl pu q3;show wpAny e_ X.A (subscriptTail e mZ! v (.ref t1!)) aJ! X.xe {s3 with heap:=s3.heap.push {cls:=.type "slice",data:=.fields #[vl,vu,.none]}};exact tail_any (ops:=[.ref t1!,v]) ht hT hg (by with_unfolding_all rfl)
def Tv(xs:k!)(lo hi:a5!):List V:=(xs.drop m1!).take m1_
def tE(xs:k!)(lo hi:a5!):(gv!).length<=i_:=by unfold Tv;rw[OK,QO];omega
def DX(K:zT!):V->Option Int->Option Int->Hp->VK->Prop:=λx lo hi H Q=>∃a xs,x=.ref a/\Fz K H a xs/\
 ¬(HT.sIx xs.length 0 lo=0/\HT.sIx xs.length xs.length hi=i_)/\∀p,H p=none->Q c5! (upd H p (.tup gv!))
def b6o:Yd X (DX X.K):=by
 intro J s Z H x v vl vu lo hi sl Q I rx hs pl pu h;obtain⟨a,xs,rfl,L,hw,q⟩:=h;cases rx;obtain⟨its,r,ht,hz⟩:=I.tuple L;have ak:a5_=i_:=by rw[GQ];exact r.length.symm
 refine⟨"tuple",_,MY.lookup,ht.typeIs,?_⟩;refine HT.getItem_tuple_cut ht hs pl pu (by rw[ak];exact hw) ?_ (by rw[ak];exact hz);rw[ak];refine⟨c8_,_,I.laid (t':=s.toks) (o:=.tup gv!) m4! y_ ?_,rfl,q _ gr!⟩;exact⟨t2_,_,t3!,IsTup.new _ _⟩
def Yp(K:zT!):R2:=λx y H Q=>∃a b xs ys,x=.ref a/\y=.ref b/\Fz K H a xs/\Fz K H b ys/\xs≠[]/\i_+M_<=sizeLine/\
 (ys=[]->Q aa_ H)/\(ys≠[]->∀p,H p=none->Q c5! (upd H p (.tup fN!)))
def Ba.nil_iff{xs:k!}(r:fL_):us=[]↔xs=[]:=by
 cases r with
 |nil=>simp
 |cons _ _=>simp
def c3e:Gq X eF_ (Yp X.K):=by intro J s Z H x y v u Q I rx ry h;obtain⟨a,b,xs,ys,rfl,rfl,ha,O,L,hz,q1,q2⟩:=h;cases rx;cases ry;obtain⟨its,r1,p1,_⟩:=I.tuple ha;obtain⟨gi,r2,p2,_⟩:=I.tuple O;refine HT.cat_tup p1 p2 (λz=>L (r1.nil_iff.mp z)) (λz=>⟨dP!,H,I,rfl,q1 (r2.nil_iff.mp z)⟩) (λz=>?_) (by rw[<-r1.length,<-r2.length];exact hz);refine⟨c8_,_,I.laid (t':=s.toks) (o:=.tup fN!) m4! y_ ?_,rfl,q2 (λw=>z (r2.nil_iff.mpr w)) _ gr!⟩;exact⟨by rw[GW];exact hz,_,r1.append r2,IsTup.new _ _⟩
end
end L2
namespace L2
open PySem PySem.Spec PyProof.Rows
def Eg(n:Nat)(i:Int):Option Nat:=if 0<=i then(if i<n then some i.toNat else none)else if -(n:Int)<=i then some (i+n).toNat else none
def Db{α:Type}(xs:J!)(i:Int):Option α:=(Eg xs.length i).bind λj=>xs[j]?
def b3a{n:Nat}{i:Int}{j:Nat}(h:Eg n i=some j):seqIndex? i n=some j/\j<n/\-(n:Int)<=i/\i<n:=by
 unfold Eg at h;by_cases h0:0<=i
 .rw[GU h0]at h;by_cases B:i<n
  .rw[GU B]at h;have e:i.toNat=j:=IG h;exact⟨by rw[seqIndex_of h0 B,e],r!,r!,B⟩
  .rw[GL B]at h;cases h
 .rw[GL h0]at h;by_cases B:-(n:Int)<=i
  .rw[GU B]at h;have e:(i+n).toNat=j:=IG h;exact⟨by rw[seqIndex_neg a! B,e],r!,B,r!⟩
  .rw[GL B]at h;cases h
def a4i{α:Type}{xs:J!}{i:Int}{v:α}(h:Db xs i=some v):∃j,seqIndex? i i_=some j/\xs[j]?=some v/\j<i_/\-i4!<=i/\i<i_:=by
 unfold Db at h;cases e:Eg xs.length i with
 |none=>rw[e]at h;cases h
 |some j=>
  rw[e]at h;obtain⟨B,Y,h3,h4⟩:=b3a e;exact⟨j,B,h,Y,h3,h4⟩
def Pp(b:Expr):Prop:=∀o i,subscripted b false o i=operate [o,i] (getItem o i)
def Vx(X:Cx)(r:R2):Prop:=
 ∀(value f8:Expr) (J:l_) (s:zS!) (Z:St) (H:Hp) (x y:V) (v u:xL!) (Q:VK),Inv X J Z H s->Bp x v->Bp y u->r x y H Q->
  subscripted f8 false v u=operate [v,u] (getItem v u)->wpAny e_ X.A (subscriptTail value f8 v u) aJ! X.xe s
def EL(X:Cx)(id:String)(r:i4_):Prop:=
 ∀(J:l_) (s:zS!) (Z:St) (H:Hp) (x:V) (xs:k!) (v:xL!) (us:h_) (Q:VK),Inv X J Z H s->Bp x v->Ba xs us->r x xs H Q->
  wpAny e_ X.A ub! aJ! X.xe s
section
variable{X:Cx}{a b:Expr}{ta tb:TE}{pos:Pos}
def Vx.or{r r':R2}(h:Vx X r)(h':Vx X r'):Vx X si!:=by
 intro value f8 J s Z H x y v u Q I rx ry q hs;obtain q|q:=q
 .exact h value f8 J s Z H x y v u Q I rx ry q hs
 .exact h' value f8 J s Z H x y v u Q I rx ry q hs
def b8f{r:R2}(hr:Vx X r)(ha:aZ!)(O:cq!)(hs:Pp b):PE X m7_ iv_:=by intro J s Z H Q I h;exact Subscript_ (c9o ha O I h λv u s2 x y H2 I2 rx ry q=>hr a b J s2 Z H2 x y v u Q I2 rx ry q (hs _ _))
def AW(K:zT!):R2:=λx y H Q=>∃p xs i v,x=.ref p/\y=.int i/\Et K H p xs/\Db xs i=some v/\Q v H
def AU(K:zT!):R2:=λx y H Q=>∃p xs i v,x=.ref p/\y=.int i/\Fz K H p xs/\Db xs i=some v/\Q v H
def AV:R2:=λx y H Q=>∃z i c,x=.str z/\y=.int i/\dT!<=sizeLine/\Db z.cps.toList i=some c/\Q gw! H
def b2z:Vx X (AW X.K):=by
 intro value f8 J s Z H x y v u Q I rx ry h hs;obtain⟨p,xs,i,z,rfl,rfl,hq,he,q⟩:=h;cases rx;obtain⟨t,rfl⟩:=ry;show"!R";obtain⟨j,B,Y,h3,h4,h5⟩:=a4i he;obtain⟨w,ew,ao⟩:=r.get Y;have hl:=aB!;have hn:=rL;have fin:EP X J Z Q w s:=uc_;by_cases h0:0<=i
 .have hj:i.toNat=j:=by
   rw[seqIndex_of h0 h5]at B;exact IG B
  exact item_listR pl.isList h0 a! uc! fin hs
 .have hj:(i+(a5_:Int)).toNat=j:=by
   rw[seqIndex_neg a! h4]at B;rw[GQ,<-hl];exact IG B
  exact subscriptTail_builtinR (x:=w) pl.isList.typeIs ue!
   (wpAny_getItem_list_neg (Q:=ue_) pl.isList a! uf! a! uc! ⟨rfl,fin⟩) hs
def c8g:Vx X (AU X.K):=by
 intro value f8 J s Z H x y v u Q I rx ry h hs;obtain⟨p,xs,i,z,rfl,rfl,hq,he,q⟩:=h;cases rx;obtain⟨t,rfl⟩:=ry;obtain⟨its,r,pl,hz⟩:=I.tuple hq;obtain⟨j,B,Y,h3,h4,h5⟩:=a4i he;obtain⟨w,ew,ao⟩:=r.get Y;have hl:=aB!;have hn:=rL;have fin:EP X J Z Q w s:=uc_;exact subscriptTail_builtinR (x:=w) pl.typeIs slot_tuple_getitem.lookup
  (getItem_tuple (j:=j) (Q:=ue_) pl a! a! (by rw[GQ,<-hl];exact B) (by simpa using ew) ⟨rfl,fin⟩) hs
def c8h:Vx X AV:=by
 intro value f8 J s Z H x y v u Q I rx ry h hs;obtain⟨z,i,c,rfl,rfl,hz,he,q⟩:=h;obtain⟨t,rfl⟩:=rx;obtain⟨t',rfl⟩:=ry;obtain⟨j,B,Y,h3,h4,h5⟩:=a4i he;have hl:z.cps.toList.length=dT!:=by simp[Str.length]
 rw[hl]at B h4 h5;have hn:=rL;exact tail_any (typeIs_str s z t) slot_str_getitem.lookup (getItem_str (c:=c) (by
  have e1:decide (i< -(2 ^ 63:Int))=false:=GZ a!;have e2:decide (i>=2 ^ 63)=false:=GZ a!;rw[e1,e2,Bool.or_false]) (by rw[B];simpa using Y) ⟨gw_,H,aZ_,H_,q⟩) hs
def EB(K:zT!):R2:=λx y H Q=>AW K x y H Q\/AU K x y H Q\/AV x y H Q
def aH:Vx X (EB X.K):=b2z.or (c8g.or c8h)
def b0a(its:h_)(n j:Nat)(u:xL!):Obj.mapSeq ug! {cls:=.type "list",data:=.seq its.toArray n}={cls:=.type "list",data:=.seq (its.set j u).toArray n}:=by simp[Obj.mapSeq]
def Inv.lst{J:l_}{Z:St}{H:Hp}{s:zS!}{p:xh!}{xs:k!}(I:d!)(h:H p=some J_):
  ∃(its:h_) (n:Nat),Ba xs its/\s.heap.get? p=some {cls:=.type "list",data:=.seq its.toArray n}/\i_<=sizeLine:=by
 obtain⟨z,its,n,r,e⟩:=I.hok p _ h;exact⟨its,n,r,e,z⟩
def Inv.lstUpd{J:l_}{Z:St}{H:Hp}{s:zS!}{p:xh!}{xs ys:k!}{its its':h_}{n n':Nat}{f:Obj->Obj}(I:d!)(h:H p=some J_)
  (ho:s.heap.get? p=some {cls:=.type "list",data:=.seq its.toArray n})(hf:f {cls:=.type "list",data:=.seq its.toArray n}={cls:=.type "list",data:=.seq its'.toArray n'})(r:Ba ys its')(hz:i5!)(t:Nat):
  Inv X J Z (upd H p a6!) {s with heap:=s.heap.update p f,toks:=t}:=by
 have e:(s.heap.update p f).get? p=some {cls:=.type "list",data:=.seq its'.toArray n'}:=by
  rw[MC f ho (by rw[hf]<;>rfl),hf]
 refine I.write (x:=p) (e:=p) (by rw[h];trivial) aA! (λb u O q=>(uj!).trans q) ⟨_,e⟩ ?_;exact⟨hz,its',n',r,e⟩
def AR:V->V->V->Hp->lX!->Prop:=λo i v H Q=>∃p xs k j,o=.ref p/\i=.int k/\H p=some J_/\Eg xs.length k=some j/\Q ul!
def a4v:Vu X AR:=by
 intro J s Z H o i v ov iv u Q I ro ri rv h;obtain⟨p,xs,k,j,rfl,rfl,hp,hj,q⟩:=h;cases ro;obtain⟨t,rfl⟩:=ri;obtain⟨its,n,r,ho,hz⟩:=I.lst hp;obtain⟨B,Y,h3,h4⟩:=b3a hj;have hl:=aB!;have hn:=rL;have I':Inv X J Z ul! {s with heap:=s.heap.update p (Obj.mapSeq ug!)}:=
  I.lstUpd hp ho (b0a its n j u) (r.set rv j) (by rw[KD];exact hz) s.toks
 by_cases h0:0<=k
 .have hk:k.toNat=j:=by
   rw[seqIndex_of h0 h4]at B;exact IG B
  exact W.ki_setAt ho h0 a! (by rw[GQ,<-hl];exact h4) um!
 .have hk:(k+(a5_:Int)).toNat=j:=by
   rw[seqIndex_neg a! h3]at B;rw[GQ,<-hl];exact IG B
  exact W.ki_setBack ho a! (by rw[GQ,<-hl];exact h3) a! um!
def a0p(lo hi:a5!)(n:Nat):(m8_).1=((HT.sIx n 0 lo:Nat):Int)/\(m8_).2.1=((HT.sIx n n hi:Nat):Int)/\(m8_).2.2=1:=by
 refine⟨?_,?_,rfl⟩
 .cases lo with
  |none=>simp[sliceBounds,HT.sIx]
  |some i=>
   show"!n"
   .simp only[h,IL]<;>omega
   .simp only[h,IB]<;>omega
 .cases hi with
  |none=>simp[sliceBounds,HT.sIx]
  |some i=>
   show"!n"
   .simp only[h,IL]<;>omega
   .simp only[h,IB]<;>omega
def xN(its:h_)(lo hi:a5!):slicePick its.toArray lo hi none=((its.drop (HT.sIx its.length 0 lo)).take (HT.sIx its.length its.length hi - HT.sIx its.length 0 lo)).toArray:=by obtain⟨B,Y,h3⟩:=a0p lo hi a5_;unfold slicePick;rw[B,Y,h3];simp only[sliceRange_one,pick_run,GQ]<;>rfl
def DY(K:zT!):V->Option Int->Option Int->Hp->VK->Prop:=λx lo hi H Q=>∃a xs,x=.ref a/\Et K H a xs/\∀p,H p=none->Q c5! (upd H p (.lst gv!))
def b1i:Yd X (DY X.K):=by intro J s Z H x v vl vu lo hi sl Q I rx hs pl pu h;obtain⟨a,xs,rfl,L,q⟩:=h;cases rx;obtain⟨its,r,ht,hz⟩:=I.list L;have ak:=aB!;refine⟨"list",_,ue!,ht.isList.typeIs,?_⟩;refine wpAny_getItem_list_slice ht.isList hs pl pu .none c_ ?_ uf!;rw[xN,<-ak];refine⟨c8_,_,I.laid (t':=s.toks) (o:=.lst gv!) m4! y_ ?_,rfl,q _ gr!⟩;exact⟨t2_,_,0,t3!,dJ_⟩
def Mt:V->Bool
 |.non=>true
 |.bl _=>true
 |.int _=>true
 |.str _=>true
 |_=>false
def Xd:V->V->Bool
 |.non,.non=>true
 |.bl a,.bl b=>a==b
 |.bl a,.int b=>up_==b
 |.int a,.bl b=>a==uq!
 |.int a,.int b=>a==b
 |.str a,.str b=>a==b
 |_,_=>false
def c8n{A:xz!}{s:zS!}{y x:V}{u v:xL!}(ry:Bp y u)(rx:Bp x v)(fy:Mt y=true)(fx:Mt x=true):SeqAt.EqAt A s u v (Xd y x):=by
 cases y with
 |non=>
  cases ry;cases x with
  |non=>cases rx;exact SeqAt.EqAt.same _
  |bl b=>cases rx;exact SeqAt.EqAt.none_bool b
  |int b=>obtain⟨t,rfl⟩:=rx;exact SeqAt.EqAt.none_int b t
  |str b=>obtain⟨t,rfl⟩:=rx;exact SeqAt.EqAt.none_str b t
  |_=>exact absurd i6_ HF
 |bl a=>
  cases ry;cases x with
  |non=>cases rx;exact SeqAt.EqAt.bool_none a
  |bl b=>cases rx;exact SeqAt.EqAt.bool_bool a b
  |int b=>obtain⟨t,rfl⟩:=rx;exact SeqAt.EqAt.bool_int a b t
  |str b=>obtain⟨t,rfl⟩:=rx;exact SeqAt.EqAt.bool_str a b t
  |_=>exact absurd i6_ HF
 |int a=>
  obtain⟨t',rfl⟩:=ry;cases x with
  |non=>cases rx;exact SeqAt.EqAt.int_none a t'
  |bl b=>cases rx;exact SeqAt.EqAt.int_bool a t' b
  |int b=>obtain⟨t,rfl⟩:=rx;exact OI a t' b t
  |str b=>obtain⟨t,rfl⟩:=rx;exact SeqAt.EqAt.int_str a t' b t
  |_=>exact absurd i6_ HF
 |str a=>
  obtain⟨t',rfl⟩:=ry;cases x with
  |non=>cases rx;exact SeqAt.EqAt.str_none a t'
  |bl b=>cases rx;exact SeqAt.EqAt.str_bool a t' b
  |int b=>obtain⟨t,rfl⟩:=rx;exact SeqAt.EqAt.str_int a t' b t
  |str b=>obtain⟨t,rfl⟩:=rx;exact SeqAt.EqAt.str_str a t' b t
  |_=>exact absurd i6_ HF
 |_=>exact absurd (show false=true from fy) HF
def Xy(x:V)(u:xL!):Bool:=match u with
 |.none=>Xd .non x
 |.bool b=>Xd bI! x
 |.int i _=>Xd bb_ x
 |.str z _=>Xd (.str z) x
 |_=>false
def c0l{x y:V}{u:xL!}(r:Bp y u)(f:Mt y=true):Xy x u=Xd y x:=by
 cases y with
 |non=>cases r;rfl
 |bl b=>cases r;rfl
 |int i=>obtain⟨t,rfl⟩:=r;rfl
 |str z=>obtain⟨t,rfl⟩:=r;rfl
 |_=>exact absurd (show false=true from f) HF
def a4k{x:V}:∀{xs:k!} {us:h_},Ba xs us->xs.all Mt=true->us.any gx!=xs.any λy=>Xd y x
 |_,_,.nil,_=>rfl
 |y::xs,u::us,.cons r t,f=>by
  rw[LW,HK]at f;rw[KQ,KQ,c0l r f.1,a4k t f.2]
def vZ{A:xz!}{s:zS!}{x:V}{v:xL!}(rx:Bp x v)(fx:Mt x=true):∀{xs:k!} {us:h_},Ba xs us->xs.all Mt=true->∀u∈us,SeqAt.EqAt A s u v (Xy x u)
 |_,_,.nil,_=>λu hu=>by cases hu
 |y::xs,u::us,.cons r t,f=>λu' hu=>by
  rw[LW,HK]at f;obtain rfl|hu:=GJ.mp hu
  .rw[c0l r f.1];exact c8n r rx f.1 fx
  .exact vZ rx fx t f.2 u' hu
def CJ(x:V)(xs:k!):Bool:=xs.any λy=>Xd y x
def EC(K:zT!)(neg:Bool):R2:=λx y H Q=>∃p xs,y=.ref p/\(Et K H p xs\/Fz K H p xs)/\Mt x=true/\xs.all Mt=true/\Q (.bl (if neg then !CJ x xs else CJ x xs)) H
def b4s:Gq X i7! (EC X.K false):=by
 intro J s Z H x y v u Q I rx ry h;obtain⟨p,xs,rfl,hq,fx,fs,q⟩:=h;cases ry;obtain hq|hq:=hq
 .show"!R";refine SeqAt.in_listAt gx! pl.isList us! eW_;rw[ut!,a4k r fs];exact q
 .show"!y";refine SeqAt.in_tupleAt gx! pl us! eW_;rw[ut!,a4k r fs];exact q
def a4f:Iq X bh_ (λxs H Q=>∃p ys,xs=gx_/\(Et X.K H p ys\/Fz X.K H p ys)/\∀l,H l=none->Q (.ref l) na_):=by
 intro J s Z H xs us Q I r h;obtain⟨p,ys,rfl,hq,q⟩:=h;obtain⟨u,rfl,rx⟩:=kS r;cases rx;have fin:∀(its:h_),Ba ys its->M_<=sizeLine->∀(h':Heap) (c':Nat),(∀b o',s.heap.get? b=some o'->h'.get? b=some o')->
   h'.get? o_=some {cls:=.type "list",dict:=none,data:=.seq its.toArray c',slots:=#[]}->EP X J Z Q c1_ {s with heap:=h'}:=λits r' hz h' c' kp e=>
  ⟨c8_,_,I.laid (t':=s.toks) kp y_ (show Fj X.prog X.w _ h' _ a6! from⟨hz,its,c',r',e⟩),rfl,q _ gr!⟩
 obtain hq|hq:=hq
 .obtain⟨its,r',pl,hz⟩:=I.list hq;have ak:=iE!;obtain⟨o,ho,hc,n,hd⟩:=pl.isList;exact call_list_seq p aA! ho hc hd uu_ uv_
 .obtain⟨its,r',pl,hz⟩:=I.tuple hq;have ak:=iE!;obtain⟨o,ho,hc,n,hd⟩:=pl;exact call_list_seq p gy! ho hc hd uu_ uv_
def CZ(K:zT!)(T:String)(x:V)(H:Hp):Prop:=match x with
 |.str _=>T="str"
 |.int _=>T="int"
 |.ref p=>(T="list"/\∃xs,Et K H p xs)\/(T="tuple"/\∃o,K.lookup p=some o/\o.cls=.type "tuple"/\o.dict=none)\/
   (T="dict"/\((∃kvs,H p=some dM_)\/∃kvs,H p=some i7_))\/(T="set"/\∃S n,H p=some (.set S n))
 |_=>False
def b6g{J:l_}{Z:St}{H:Hp}{s:zS!}{T:String}{x:V}{v:xL!}(I:d!)(r:Bp x v)(ty:CZ X.K T x H):
  s.TypeIs v T/\∀a,v=.ref a->∃ob,s.heap.get? a=some ob/\ob.dict=none:=by
 cases x with
 |str z=>
  show"#%";cases (show T="str" from ty);exact⟨typeIs_str s z t,uw_⟩
 |int i=>
  show"#%";cases (show T="int" from ty);exact⟨typeIs_int s i t,uw_⟩
 |ref p=>
  cases r;obtain⟨rfl,xs,hq⟩|⟨rfl,o,hk,hc,hd⟩|⟨rfl,hk⟩|⟨rfl,S,n,hk⟩:=ty
  .obtain⟨its,_,pl,_⟩:=I.list hq;refine⟨pl.isList.typeIs,λa e=>?_⟩;cases e;obtain⟨o,n,e,c,hd,_⟩:=pl;exact⟨o,e,hd⟩
  .refine⟨⟨o,I.kIn p o hk,hc⟩,λa e=>?_⟩;cases e;exact⟨o,I.kIn _ o hk,hd⟩
  .have z:∃o,s.heap.get? p=some o/\hO_:=by
    obtain⟨kvs,hk⟩|⟨kvs,hk⟩:=hk
    .show"!u"
    .show"!u"
   obtain⟨o,e,ex⟩:=z;refine uz_;cases e2;exact uA!
  .obtain⟨o,_,_,_,e,ex,_⟩:=I.hok p _ hk;refine uz_;cases e2;exact uA!
 |_=>exact False.elim ty
def DP(K:zT!)(T:String)(r:i4_)(to:TE):TE:=λZ H Q=>to Z H λx H1=>CZ K T x H1/\r x [] H1 Q
def FS(K:zT!)(T:String)(r:i4_)(to:TE)(t:TA):TE:=λZ H Q=>to Z H λx H1=>CZ K T x H1/\t Z H1 λxs H2=>r x xs H2 Q
variable{o e:Expr}{es:List Expr}{to:TE}{t:TA}{name:Str}{ag ab:Pos}{T id:String}{r:V->List V->Hp->VK->Prop}
def c6z(pa:PlainAttrs T)(slot:uB!)(xo:uB_)(hm:EL X id r)(ho:lY!)
  (df:uC!:=by rfl)(dh:cx_:=by rfl):PE X (.Call uD_ [] [] ab) (DP X.K T r to):=by
 show"!F";refine wpAny_Call_method0_late df dh uE!;obtain⟨B,Y⟩:=b6g I1 r1 ty;exact⟨T,id,pa,slot,xo,B,Y,KS rfl (PySem.evalArgs_none (hm J s1 Z H1 x [] v [] Q I1 r1 .nil q1))⟩
def zC(pa:PlainAttrs T)(slot:uB!)(xo:uB_)(hm:EL X id r)(ho:lY!)(ha:eR_)
  (df:uC!:=by rfl)
  (gj:((backTo ab tg!).all cy!&&(cy_).all cz!
   &&decide ((aK!).length+(dT_).length+eX!<30))=true:=by rfl)
  (dh:cx_:=by rfl) (hs:ak_:=by rfl) (gk:(uF!).any b!=false:=by rfl):
  PE X (.Call uD_ aK! [] ab) (FS X.K T r to t):=by
 show"!F";refine wpAny_Call_method_late df gj dh rfl uE!;obtain⟨B,Y⟩:=b6g I1 r1 ty;refine⟨T,id,pa,slot,xo,B,Y,?_⟩;have hA:=ha ab J s1 Z H1 _ I1 q1;rw[hs]at hA ⊢;refine KS (by show(false||(uF!).any b!)=false;rw[gk]<;>rfl) (MH ?_);exact cZ hA λus s2 ⟨vs,H2,I2,r2,q2⟩=>hm J s2 Z H2 x vs v us Q I2 r1 r2 q2
end
end L2
namespace L2
open PySem PySem.Spec PyProof.Rows
def CS(X:Cx)(id:String)(r:i4_):Prop:=
 ∀(J:l_) (s:zS!) (Z:St) (H:Hp) (x:V) (xs:k!) (v:xL!) (us:h_) (Q:VK),Inv X J Z H s->Bp x v->Ba xs us->r x xs H Q->
  wpAny e_ X.A ub! aJ! X.xe s
def Ba.one:∀{x:V} {us:h_},Ba [x] us->∃u,us=[u]/\Bp x u
 |_,_,.cons r .nil=>lm!
def Ba.zero:∀{us:h_},Ba [] us->us=[]
 |_,.nil=>rfl
def Ba.dropLast{xs:k!}{us:h_}(h:fL_):Ba xs.dropLast us.dropLast:=by
 induction h with
 |nil=>exact .nil
 |cons r t ih=>
  cases t with
  |nil=>exact .nil
  |cons q t'=>exact .cons r ih
def Ba.rep{xs:k!}(h:fL_):∀k:Nat,Ba (uF_).flatten (List.replicate k us).flatten
 |0=>.nil
 |k+1=>by
  rw[KC,KC,LV,LV];exact Ba.append h (Ba.rep h k)
def b0q{α:Type}(l:J!):l.eraseIdx (O! - 1)=l.dropLast:=by
 induction l with
 |nil=>rfl
 |cons a r ih=>
  cases r with
  |nil=>rfl
  |cons b r=>
   have e:(a::b::r).length - 1=((b::r).length - 1)+1:=by
    have B:(a::b::r).length=aB!+2:=rfl;have Y:(b::r).length=aB!+1:=rfl;omega
   rw[e,List.eraseIdx_cons_succ,ih]
   all_goals rfl
def zU(its:h_):∀(k:Nat) (acc:h_),
  List.foldl nd_ acc.toArray (List.replicate k aQ!)=(acc++(uG!).flatten).toArray
 |0,acc=>by simp
 |k+1,acc=>by
  have e:acc.toArray++aQ!=(ne!).toArray:=by simp
  have e2:ne!++(uG!).flatten=acc++(List.replicate P_ its).flatten:=by
   rw[KC,LV,IY]
  rw[<-e2,<-zU its k ne!,<-e,KC,OY]
section
variable{X:Cx}{J:List (Addr×Obj)}{Z:St}{H:Hp}{s:zS!}{l b:xh!}{xs ys zs:List V}
def Inv.lset{its its':h_}{n:Nat}{f:Array Value->Array Value}{t':Nat}(I:d!)(hH:H l=some J_)
  (e:s.heap.get? l=some {cls:=.type "list",data:=.seq its.toArray n})(hf:f aQ!=its'.toArray)(hv:Ba ys its')(hz:i5!):
  Inv X J Z na_ {s with heap:=s.heap.update l uG_,toks:=t'}:=by
 have q:=PySem.IsL.update e f;rw[hf]at q;refine I.write (x:=l) (e:=l) (by rw[hH];exact trivial) aA! (λb' u O hu=>(JA s.heap uG_ (GN O)).trans hu) ⟨_,q⟩ ?_;exact⟨hz,its',_,hv,q⟩
def Inv.lnew{its:h_}{t':Nat}(I:d!)(hv:Ba ys its)(hz:i5!):
  Inv X J Z (upd H s.heap.objs.size a6!) {s with heap:=s.heap.push {cls:=.type "list",data:=.seq aQ!},toks:=t'}:=
 I.laid uH! y_ ⟨hz,its,0,hv,dJ_⟩
def Inv.fresh(I:d!):H o_=none:=I.hok.fresh y_
def Inv.lstM(I:d!)(hH:H l=some J_):i_<=sizeLine/\∃(its:h_) (n:Nat),Ba xs its/\i_=eY!/\s.heap.get? l=some {cls:=.type "list",data:=.seq its.toArray n}:=by obtain⟨z,its,n,r,e⟩:=I.hok l _ hH;exact⟨z,its,n,r,aB!,e⟩
def a6a{n:Nat}(h:ne_):Builtin.List.listTooLong n=false:=by unfold Builtin.List.listTooLong;exact GZ a!
end
section
variable{X:Cx}
def Xo:V->List V->Hp->VK->Prop:=λx vs H Q=>∃l xs y,x=.ref l/\vs=[y]/\H l=some J_/\i_<sizeLine/\Q .non (upd H l (.lst eZ!))
def zJ:CS X "list.append" Xo:=by intro J s Z H x vs v us Q I rx rv h;obtain⟨l,xs,y,rfl,rfl,hH,hz,q⟩:=h;cases rx;obtain⟨u,rfl,ru⟩:=rv.one;obtain⟨z,its,n,r,hl,e⟩:=I.lstM hH;refine QF F.slot_list_append da! F.entry_list_append (F.args_list_append_2 _ _) (PySem.list_append l its.toArray n u nf!) eZ_;refine⟨.non,_,I.lset (its':=its++[u]) hH e c_ (r.append nf_) ?_,rfl,q⟩;rw[GW,IM];omega
def Xn:V->List V->Hp->VK->Prop:=λx vs H Q=>∃l b xs zs,x=.ref l/\vs=[.ref b]/\H l=some J_/\H b=some (.lst zs)/\i_+zs.length<=sizeLine/\Q .non (upd H l uJ!)
def b5c:CS X "list.extend" Xn:=by
 intro J s Z H x vs v us Q I rx rv h;obtain⟨l,b,xs,zs,rfl,rfl,hH,hB,hz,q⟩:=h;cases rx;obtain⟨u,rfl,ru⟩:=rv.one;cases ru;obtain⟨z,its,n,r,hl,e⟩:=I.lstM hH;obtain⟨z2,gi,n2,r2,hl2,e2⟩:=I.lstM hB;have hsz:a5_+uK!<=sizeLine:=by rw[GQ,GQ];omega
 have xp:¬(! mt_&&Builtin.List.listTooLong (a5_+uK!))=true:=by
  rw[a6a hsz,PM];exact HF
 refine QF F.slot_list_extend da! F.entry_list_extend (F.args_list_extend_2 _ _)
  (AutoSeq1.list_extend_list_list_0 l its.toArray n b gi.toArray n2 xp nf! a!) ⟨e,e2,?_⟩
 refine⟨.non,_,I.lset (its':=its++gi) hH e c_ (r.append r2) ?_,rfl,q⟩;rw[GW];omega
def EA:V->List V->Hp->VK->Prop:=λx vs H Q=>∃l xs y,x=.ref l/\vs=[]/\H l=some J_/\xs[i_ - 1]?=some y/\Q y (upd H l (.lst xs.dropLast))
def c7r:CS X "list.pop" EA:=by
 intro J s Z H x vs v us Q I rx rv h;obtain⟨l,xs,y,rfl,rfl,hH,hy,q⟩:=h;cases rx;have WY:=rv.zero;subst WY;obtain⟨z,its,n,r,hl,e⟩:=I.lstM hH;obtain⟨u,hu,ru⟩:=r.get hy;have xq:aQ![a5_ - 1]?=some u:=by
  show aQ![eY! - 1]?=some u;rw[<-KR,<-hl];exact hu
 refine QF F.slot_list_pop da! F.entry_list_pop (F.args_list_pop_1 _) (MeetsSeq.list_pop_last l its.toArray n u xq nf!) eZ_;refine⟨y,_,I.lset (its':=its.dropLast) hH e ?_ r.dropLast ?_,ru,q⟩
 .show its.toArray.eraseIdxIfInBounds (a5_ - 1)=its.dropLast.toArray;rw[GQ,List.eraseIdxIfInBounds_toArray,b0q]
 .rw[List.length_dropLast];omega
def DZ:R2:=λx y H Q=>∃l k xs,x=.ref l/\y=.int k/\H l=some J_/\-(2 ^ 63)<=k/\k<2 ^ 63/\i_*k.toNat<=sizeLine/\
 ∀p,H p=none->Q c5! (upd H p (.lst (List.replicate k.toNat xs).flatten))
def c3r{α:Type}(xs:J!)(k:Nat):(uF_).flatten.length=k*i_:=by
 induction k with
 |zero=>simp
 |succ k ih=>rw[KC,LV,GW,ih,Nat.succ_mul,Nat.add_comm]
def c7a:Gq X mj! DZ:=by
 intro J s Z H x y v u Q I rx ry h;obtain⟨l,k,xs,rfl,rfl,hH,B,Y,hz,q⟩:=h;cases rx;obtain⟨t,rfl⟩:=ry;obtain⟨z,its,n,r,hl,e⟩:=I.lstM hH;have ak:a5_*k.toNat<=sizeLine:=by rw[GQ,<-hl];exact hz
 have WZ:¬a5_*k.toNat>ng! / 8:=by
  have:(sizeLine:Nat)<=ng! / 8:=by decide
  omega
 have xr:¬(!Builtin.List.listFitsIndex k)=true:=by
  rw[fitsIndex_both B Y];exact HF
 have xp:¬Builtin.List.listTooLong (a5_*k.toNat)=true:=by
  rw[a6a ak];exact HF
 have pj:List.foldl nd_ #[] (List.replicate (if mt_=true then 0 else k.toNat) aQ!)=(List.replicate k.toNat its).flatten.toArray:=by
  have f0:∀m:Nat,List.foldl nd_ #[] (List.replicate m aQ!)=(List.replicate m its).flatten.toArray:=λm=>by
   have:=zU its m [];rw[JF]at this;exact this
  rw[f0];cases its with
  |nil=>simp
  |cons a r'=>rw[av_]
 refine wpAny_binaryOp_repeat_ref (T:="list") (U:="int") c! da! (λs'=>typeIs_int s' k t) noFill_list_mul F.fills_int_mul F.slot_int_rmul repeat_list F.slot_int_index.lookup
  (QF F.slot_int_rmul (typeIs_int s k t) F.entry_int_rmul (F.args_int_rmul_2 _ _) (int___rmul___int_list k t l its.toArray n)
   ⟨e,rfl,da!,QF F.slot_list_mul da! F.entry_list_mul (F.args_list_mul_2 _ _) (AutoListH.list___mul___list_int_3 l its.toArray n k t xr WZ xp) eZ_⟩)
 rw[pj];exact⟨.ref _,_,I.lnew (t':=s.toks) (r.rep k.toNat) (by rw[c3r,Nat.mul_comm];exact hz),rfl,q _ I.fresh⟩
end
end L2
namespace L2
open PySem PySem.Spec PyProof.Rows
section
variable{κ:Type} [DecidableEq κ]
def Ni(kvs:gf_)(k:κ):Option V:=(kvs.find? λkv=>decide (kv.1=k)).map z_
def b6e{p:κ×V}{r:gf_}{k:κ}(e:p.1=k):Ni (p::r) k=some p.2:=by simp[Ni,KG,e]
def b6f{p:κ×V}{r:gf_}{k:κ}(e:¬p.1=k):Ni (p::r) k=Ni r k:=by simp[Ni,KG,e]
def Ny.isSome_eq{o:Option V}{u:mE_}(r:Ny o u):o.isSome=u.isSome:=by
 cases o with
 |none=>cases u with
  |none=>rfl
  |some _=>exact(iH_).elim
 |some _=>cases u with
  |none=>exact(iH_).elim
  |some _=>rfl
def KV.val{kvs:gf_}{vs:List lo_}(r:KV kvs vs)(k:κ):Ny (Ni kvs k) (valueAt vs k):=by
 unfold KV at r
 induction r with
 |nil=>exact iK_
 |@cons p q ps qs h t ih=>
  obtain⟨B,Y⟩:=h;by_cases e:p.1=k
  .have e':q.1=k:=B.symm.trans e;have b:valueAt (q::qs) k=some q.2:=by simp[valueAt,KG,e']
   rw[b6e e,b];exact Y
  .have e':¬q.1=k:=λz=>e (B.trans z);have b:valueAt (q::qs) k=valueAt qs k:=by simp[valueAt,KG,e']
   rw[b6f e,b];exact ih
end
def b9t{P:xR!}{w:xM!}{k:Key}{u:xL!}(r:Bp (kV k) u):(bp_).is k u=true:=by
 cases k with
 |inl i=>obtain⟨t,e⟩:=sQ_;subst e;exact a6i P w i t
 |inr x=>obtain⟨t,e⟩:=sR!;subst e;exact lG P w x t
def rR{P:xR!}{w:xM!}:∀{ks:List Key} {us:h_},Ba nh! us->ItemsAre bp_ ks us
 |[],_,r=>by rw[LN]at r;cases r;exact .nil
 |k::ks,_,r=>by
  rw[GM]at r;cases r with
  |cons h t=>exact .cons (b9t h) (rR t)
abbrev KT(H:Hp):List (List Key×V)->List lp!->Prop:=Paired λp q=>p.1=q.1/\H q.2.1=some qn!/\Bp p.2 q.2.2
section
variable{P:xR!}{w:xM!}{H:Hp}{h:Heap}{a:xh!}
def d0m{u:HO}(ok:bq_)(e:Rd H a u):Fj P w H h a u:=e.ok ok
def a3e{ks:List Key}(ok:bq_)(e:H a=some (.tup nh!)):(fP!).is h ks a:=by obtain⟨_,its,r,o,B,Y,n,h3⟩:=(show Fj P w H h a (.tup nh!)from ok a _ e);exact⟨o,aQ!,n,B,Y,h3,by simpa using rR r⟩
def d1p{kvs:hN_}(ok:bq_)(e:Rd H a i7_):az_<=sizeLine/\dA!=false/\
  ∃xs,KT H kvs xs/\h.DictOfH fP! a xs:=by
 obtain⟨z,y,xs,r,o,es,ep,B,Y,h3,h4,h5⟩:=(show Fj P w H h a i7_ from d0m ok e);refine⟨z,y,xs,r,o,es,ep,B,Y,h3,h4,aT_,h5⟩;have all:∀{l:hN_} {m:List lp!},KT H l m->∀x∈m,(fP!).is h x.1 x.2.1:=by
  intro l m q
  induction q with
  |nil=>intro x L;exact nomatch L
  |@cons p q ps qs hq t ih=>
   intro x L;obtain e|L:=GJ.mp L
   .subst e;exact a3e ok (by rw[<-hq.1];exact hq.2.1)
   .exact ih x L
 exact all r x L
def xC{kvs:hN_}(ok:bq_)(e:H a=some i7_):az_<=sizeLine/\dA!=false/\
  ∃xs,KT H kvs xs/\h.DictOfH fP! a xs:=d1p ok (.inl e)
end
section
variable{X:Cx}{J:List (Addr×Obj)}{Z:St}{H:Hp}{s:zS!}{a:xh!}{y v:V}{u r:xL!}{o:Option V}{A:xz!}{E:Value->Shared->Prop}
def Inv.big(I:d!):sysModules<o_:=by have h:mainGlobals<o_:=(I.mod.glob.keeps I.bk).lt;exact Nat.lt_trans c! h
def c4x{h':Heap}{t':Nat}{ob:HO}(I:d!)(mu:BR (H a))(hs:uP_)(he:∃q,h'.get? a=some q)(new:Fj X.prog X.w (upd H a ob) h' a ob):
  Inv X J Z (upd H a ob) {s with heap:=h',toks:=t'}:=
 I.write (x:=a) (e:=a) mu aA! (λb q O z=>(hs.2 b O).trans z) he new
end
def BQ(i:Expr):Prop:=∀ov iv,subscripted i false ov iv=operate [ov,iv] (getItem ov iv)
def c2a{prog:xR!}{w:xM!}{A:xz!}{E:p!}{s:zS!}{value:Expr}{pos:Pos}{T id:String}{Q:p!}
  (hl:typeLookup eT_ "__getitem__"=pure (some eT!))(hs:BQ f8)
  (h:wpAny q_ A (eval value env) (λo aj=>wpAny q_ A (eval f8 env) (λi al=>al.TypeIs o T/\wpAny q_ A (getItem o i) Q E al) E aj) E s):
  wpAny q_ A (eval (.Subscript value f8 pos) env) Q E s:=by
 refine Subscript_ (JJ h (λo aj h₁=>JJ h₁ (λi al q9=>?_) λ_ _ x=>x) λ_ _ x=>x);obtain⟨hT,q9⟩:=q9;unfold subscriptTail;refine GF ?_;rw[getitemInPython_of_ne hT.not_modules];refine GF (OB hT hl ?_);have fin:wpAny q_ A (subscripted f8 false o i) (λr dr=>wpAny q_ A (letTemporaryGo value o r>>=λ_=>pure r) Q E dr) E al:=by
  rw[hs o i];exact wpAny_operating (JJ q9 (λr dr vj=>GF (wpAny_letTemporaryGo (GH vj))) λ_ _ x=>x)
 first
  |exact GH je!
  |exact GF (GH je!)
  |exact GF fin
structure M1(X:Cx)(o:Expr)(m:Str)(ag:Pos)(e:Expr)(ab:Pos):Prop where
 base:attributeBase o m X.env cZ_=eval o X.env
 few:((je_).all cy!&&(cy_).all cz!
  &&decide (([e]:List Expr).length+(dT_).length+eX!<30))=true
 line:nd!=true
 trees:backTo ab uS!=[eQ!]
structure M2(X:Cx)(o:Expr)(m:Str)(ag:Pos)(e f:Expr)(ab:Pos):Prop where
 base:attributeBase o m X.env cZ_=eval o X.env
 few:((backTo ab uS_).all cy!&&(cy_).all cz!
  &&decide (([e,f]:List Expr).length+(dT_).length+eX!<30))=true
 line:nd!=true
 trees:backTo ab uS_=[eQ!,(false,eval f X.env)]
end L2
namespace Att
open PySem PySem.W PySem.Calls PyProof.Rows
def tS{P:Params}{h:Heap}:∀(ns:D!) (vs:h_),WellAll P h vs uT!->IntsAre vs ns:=by
 intro ns
 induction ns with
 |nil=>
  intro vs w;rw[LN]at w;cases w;exact .nil
 |cons n ns ih=>
  intro vs w;rw[GM]at w;cases w with
  |cons a b=>
   cases a;exact .cons _ _ (ih _ b)
def b4f{l:OpenLaw}{n:Nat}(hn:jf!){P:Params}{h:Heap}{args:List WData}
  (vk:l.row.toRowW.claim.pre args=true)(xt:WellAll P h xu args):
  ∃a vs ns,xu=[Value.ref a]/\args=[WData.list uT!]/\h.get? a=some {cls:=.type "list",data:=.seq cx!}/\IntsAre vs ns/\cv!<=n:=by
 have W3:WShape.hasAll [] args [.list .int]=true:=(uT_).1;have hc:l.pre.holds [] {args:=args}=true:=(uT_).2;obtain⟨d,r,rfl,B,Y⟩:=hasAllW_cons W3;obtain rfl:=hasAllW_nil Y;obtain⟨xs,rfl,h3⟩:=hasW_list B;obtain⟨ns,rfl⟩:=items_int h3;have ak:cv!<=n:=by
  unfold OpenLaw.pre at hc;have h4:(WTm.not (.lt (.lit (.int (n:Int))) (.len (.arg 0)))).holds [] {args:=[.list jf_]}=true:=by
   have h4:=(holds_andW hc).1;rw[hn]at h4;exact h4
  have h5:=condW_of h4 (w_not (w_lt w_lit (w_len_list (w_arg rfl))));rw[GX]at h5;refine Nat.le_of_not_lt λq=>?_;have q':(n:Int)<((cv!:Nat):Int):=by omega
  first
   |(rw[HN q']at h5;exact absurd h5 c!)
   |(simp at h5;omega)
 cases xt with
 |cons w1 w2=>
  cases w2;cases w1 with
  |list ho gn=>exact⟨_,_,ns,rfl,rfl,ho,tS ns _ gn,ak⟩
def b4l(l:OpenLaw)(args:List WData):l.row.toRowW.claim.post args gA_ args=true:=
 postW_of (r:=l.row.toRowW) (X:=(true==true))
  (show WShape.has [] gA_ .bool=true by first|rfl|decide|simp[WShape.has,WShape.arms,WShape.armsAll])
  (show(WTm.eq .res (.lit gA_)).value [] {args:=args,res:=some gA_,after:=args}=some (.bool (true==true))from w_eq_bool (w_res rfl) w_lit) rfl
def a8d{l:OpenLaw}{n:Nat}{XP:nj_}{YP:nk!}{d:DefRec}
  (hn:jf!)(rc:nk_)
  (call:∀(w:xM!) (s₀ aj:zS!) (mg mb:B_) (fa:xh!) (o:Obj) (pm cd bo:xL!) (a:xh!) (vs:h_) (ns:D!),
   Ground q xv [] XP w s₀ mg mb aj.heap->YP w aj.heap->
   aj.heap.get? fa=some o->o.data=.func (docDef d.name d.params d.body d.scope pm cd bo)->aj.heap.CodeRec cd d.name->mg d.name=some e1_->
   aj.heap.get? a=some {cls:=.type "list",data:=.seq cx!}->IntsAre vs ns->cv!<=n->aj.gens=#[]->
   codeAny (model l.prog w) callerA nl_ nm! aj):
  WalkO q xv XP YP l.row.toRowW d [] nm_:=by
 intro w s₀ aj mg mb G vm fa o pm cd bo dV kV ho hd bv hD j0 hg args xu as vk hlay hrd xt hlo;obtain rfl:dV=.none:=Dflts.none hD rc;obtain rfl:kV=.none:=Dflts.noKw hD;obtain⟨a,vs,ns,rfl,rfl,xw,hints,ak⟩:=b4f hn vk xt;refine enter_call (QB (call w s₀ aj mg mb fa o pm cd bo a vs ns G vm ho (fd_plain hd) bv j0 xw hints ak hg) λr s' hq=>?_);obtain⟨rfl,Y,h3,h4⟩:=hq;exact⟨.inl ⟨nn_,nn_,[],rfl,eO!,nn_,b4l l _,λ_=>⟨jg_,λ_ hm=>(nomatch hm)⟩⟩,Y,h3,h4⟩
section
variable{prog:xR!}{w:xM!}{A:xz!}{E:Value->Shared->Prop}{s:zS!}{K:Frag}
end
end Att
namespace L2
open PySem PySem.Spec PyProof.Rows
def yQ:∀{vs:h_} {ns:D!},IntsAre vs ns->Ba b6_ vs
 |_,_,.nil=>.nil
 |_,_,.cons n t h=>.cons no_ (yQ h)
def Ye(H:Hp):Prop:=∀b,H b=none\/∃o xs,H b=some (.frz o J_)
def b9m{P:xR!}{w:xM!}{K:zT!}{mg mb:B_}{CX:Vz}{k:Nat}{a:xh!}{fd:FuncData}{x:Str}{sp:Sp}{aj:zS!}{vs:h_}{ns:D!}
  (KX:K.In aj.heap)(vn:aj.heap.Ns mainGlobals mg)(O:aj.heap.Ns builtinsNs mb)(W4:∀x:Str,x≠"__name__"->mb x=bootBuiltins x)(W5:aj.heap.NoLimit)(hg:aj.gens=#[])
  (ha:aj.heap.get? a=some {cls:=.type "list",data:=.seq cx!})(hi:IntsAre vs ns)(hl:sG_)(hr:np!)
  (F:∀base:Heap,K.In base->base.Ns mainGlobals mg->Fk P w K mg base CX k fa fd [x] sp)(W6:∀(s:zS!) (u:xL!),BindsTo s fd jh! [(x,u)])
  (jc:∀H:Hp,Ye H->Et K H a b6_->sp bf_ H jh_ λ_ _ _=>False)
  (rf:∀H e s',CX [] H aj ji! e s'->False):
  codeAny L! callerA nl_ nm! aj:=by
 have rv:=yQ hi;have W7:=hi.length;have SI:∀H:Hp,Ye H->Et K H a b6_->Nz P w H aj.heap->(∀b,H b≠none->b=a)->(H a≠none->K.lookup a=none)->
   codeAny L! callerA nl_ nm! aj:=by
  intro H hO hS hok hA hK;have SJ:∀{b:xh!} {o:Obj},aj.heap.get? b=some o->H b=none->(gB_).get? b=some o:=λe n=>c0d e n;have q8:∀{b:xh!} {o:Obj} {es:bK_} {ep:Nat},aj.heap.get? b=some o->o.data=.dict es ep->H b=none:=λ{b o es ep} e d=>by
   cases q:H b with
   |none=>rfl
   |some u=>
    have e':b=a:=hA b b7_;subst e';rw[ha]at e;cases e;have d':Data.seq vs.toArray _=Data.dict es ep:=d;cases d'
  have vo:∀{b:xh!} {m:B_},aj.heap.Ns b m->(gB_).Ns b m:=λ{b m} ⟨o,es,ep,e,d,r⟩=>⟨o,es,ep,SJ e (q8 e d),d,r⟩;have SK:K.In gB_:=λb o e=>SJ (KX b o e) (by
   cases q:H b with
   |none=>rfl
   |some u=>
    have e':b=a:=hA b b7_;subst e';rw[hK b7_]at e;cases e)
  have hM:Mod K mg gB_:=⟨SK,vo vn,⟨mb,vo O,W4⟩,let⟨mc,B,Y⟩:=W5;⟨mc,vo B,Y⟩⟩;have e0:Qz P w K mg gB_ callerA [] aj H:=⟨rfl,hM,λb o e=>c3i e,NS (b5m _ _),trivial,λb O=>absurd (show b∈ts_ from O) c_,hok,.of_eq hg⟩;refine QB ((F _ SK (vo vn)).run callerA [] aj H nl! bf_ bf_ _ _ hr e0 (W6 aj aa_) tj! (jc H hO hS)) λr s' h=>?_;cases r with
  |error e=>exact(rf H e s' h).elim
  |ok fl=>
   cases fl with
   |next=>exact False.elim h
   |brk=>exact False.elim h
   |cont=>exact False.elim h
   |ret u=>
    obtain⟨v,H',os,bare,un,W8,r',q⟩:=h;have q':v=.bl true:=q;subst q';obtain rfl:u=Value.bool true:=r';refine⟨rfl,OldK.of_keep λb o e=>?_,os,bare⟩;cases q:H b with
    |none=>exact un.keep b o e q (by intro z;exact absurd tt! c_) c_
    |some u=>
     obtain z|⟨ob,xs,z⟩:=hO b
     .rw[q]at z;cases z
     .have z2:=un.frzs b ob _ z;obtain⟨e1,_⟩:=hok b _ z;obtain⟨e2,_⟩:=W8 b _ z2;rw[e]at e1;cases e1;exact e2
 cases hk:K.lookup a with
 |some o=>
  have e:=KX a o hk;rw[ha]at e;cases e;refine SI (λ_=>none) (λ_=>.inl rfl) (.inr ⟨_,cx!,_,hk,rfl,rfl,rfl,by rw[GQ,W7];exact hl,by simpa using rv⟩) (λb u z=>by have z':(none:Option HO)=some u:=z;cases z') (λb z=>absurd rfl z) λz=>absurd rfl z
 |none=>
  refine SI (λb=>if b=a then some (.frz {cls:=.type "list",data:=.seq cx!} (.lst b6_))else none) (λb=>?_) (.inl (.inr ⟨{cls:=.type "list",data:=.seq cx!},l!⟩)) (λb u z=>?_) (λb z=>?_) λ_=>hk
  .by_cases O:b=a
   .exact .inr ⟨_,_,GU O⟩
   .exact .inl (GL O)
  .by_cases O:b=a
   .have z':=(GU O).symm.trans z;cases z';subst O;exact⟨ha,uY_,vs,_,rv,ha⟩
   .have z':=(GL O).symm.trans z;cases z'
  .by_cases O:b=a
   .exact O
   .exact absurd (GL O) z
end L2
namespace L2
open PySem PySem.Spec PyProof.Rows
def c1v{l:W.OpenLaw}{n k:Nat}{XP:nj_}{YP:nk!}{d:DefRec}{K:uZ!}{CX:World->Vz}{sp:World->Sp}{x:Str}
  (hn:jf!)(ie:ne_)(rc:nk_)(hr:np!)
  (hY:uZ_)
  (F:∀(w:xM!) (mg:B_) (fa:xh!) (h:Heap),(bL!).In h->h.Ns mainGlobals mg->mg d.name=some e1_->
   ∃fd:FuncData,u0!/\
    ∀base:Heap,(bL!).In base->base.Ns mainGlobals mg->Fk l.prog w bL! mg base (CX w) k fa fd [x] (sp w))
  (jc:∀(w:xM!) (H:Hp) (a:xh!) (ns:D!),cv!<=n->Ye H->Et bL! H a b6_->sp w bf_ H jh_ λ_ _ _=>False)
  (rf:∀(w:xM!) (H:Hp) (s:zS!) (e:xL!) (s':zS!),CX w [] H s ji! e s'->False):
  W.WalkO q xv XP YP l.row.toRowW d [] nm_:=by
 refine Att.a8d hn rc λw s₀ aj mg mb fa o pm cd bo a vs ns G vm ho hd bv j0 xw hints ak hg=>?_;have KX:=hY w _ vm;obtain⟨fd,O,hF⟩:=F w mg fa _ KX G.T.g j0;exact b9m KX G.T.g G.T.b G.T.builtins G.T.nolimit hg xw hints (HR ak ie) hr hF O (λH hO hS=>jc w H a ns ak hO hS) λH e s'=>rf w H aj e s'
def b6d{l:W.OpenLaw}{n k:Nat}{XP:nj_}{YP:nk!}{d:DefRec}{K:uZ!}{CX:Vz}{sp:W.Frag->Sp}{x:Str}
  (hn:jf!)(ie:ne_)(rc:nk_)(hr:np!)
  (hY:uZ_)
  (F:∀(w:xM!) (mg:B_) (fa:xh!) (h:Heap),(bL!).In h->h.Ns mainGlobals mg->mg d.name=some e1_->
   ∃fd:FuncData,u0!/\
    ∀base:Heap,(bL!).In base->base.Ns mainGlobals mg->Fk l.prog w bL! mg base CX k fa fd [x] (sp bL!))
  (jc:∀(K:zT!) (H:Hp) (a:xh!) (ns:D!),cv!<=n->Ye H->Et K H a b6_->sp K bf_ H jh_ λ_ _ _=>False)
  (rf:∀(H:Hp) (s:zS!) (e:xL!) (s':zS!),CX [] H s ji! e s'->False):
  W.WalkO q xv XP YP l.row.toRowW d [] nm_:=
 c1v (K:=K) (CX:=λ_=>CX) (sp:=λw=>sp bL!) hn ie rc hr hY F (λw H a ns B Y h3=>jc bL! H a ns B Y h3) λ_ H s e s'=>rf H s e s'
end L2
namespace L2
open PySem PySem.Spec PyProof.Rows
def Fn(s:Stmt):Arguments:=match s with
 |.FunctionDef _ a _ _ _ _ _ _ _ _=>a
 |_=>{posonlyargs:=[],args:=[],vararg:=none,kwonlyargs:=[],kw_defaults:=[],kwarg:=none,defaults:=[]}
def Dc(s:Stmt):List Stmt:=match s with
 |.FunctionDef _ _ b _ _ _ _ _ _ _=>b
 |_=>[]
def Ae(s:Stmt):Scope:=match s with
 |.FunctionDef _ _ _ _ _ _ sc _ _ _=>sc
 |_=>{kind:=.function,names:=[],isGenerator:=false,isCoroutine:=false}
abbrev Pk:Vz:=λ_ _ _ _ _ _=>False
abbrev E0:XK:=λ_ _ _=>False
def vN{X:Cx}:Lq Pk X E0:=λ_ _ _ _ _ _ _ h=>h.elim
structure Wz(K:zT!)(x qual:Str)(st:Stmt)(f:xh!)(fd:FuncData):Prop where
 ex:∃(oc:xL!) (od:a4_) (kV bo pm:xL!) (an:a4_) (ae ct:xL!) (dt:b6!),
  fd=W.fnOf x qual ks! bL_ bz_ .none kV bo pm an ae ct/\K.lookup f=some ⟨oc,od,.func fd,dt⟩/\W.codeIn K ae qual=true
 kp:W.keepIn K ae_=true
section
variable{P:xR!}{w:xM!}{K:zT!}{mg:Str->Option Value}{base:Heap}
def Wz.ok{x:Str}{st:Stmt}{f:xh!}{fd:FuncData}{ps:j_}{k:Nat}{sp:Sp}(F:u1_)(S:dV_)(len:tx!)
  (ph:∀(ae:xL!) (A:xz!) (outer:aq_) (s:zS!) (H:Hp) (vs:k!) (Q:VK) (E:XK),Ak k (A.deeper (envOfC qual bz_ s.heap.objs.size f ae))->sp vs H Q E->
   ∃t,Tz (Om Pk P w K mg base N qual bz_ f ae A outer s H E).nox bL_ t/\t {nx:=λ_ H'=>Q .non H',rt:=Q} gs_ H):Fk P w K mg base Pk P_ f fd ps sp:=by
 show"#(";refine d1l lk bv S len λA outer s H vs Q E hr jc=>?_;obtain⟨t,h,q⟩:=ph ae A outer s H vs Q E hr jc;exact⟨t,h.nox,q⟩
def Wz.binds{x:Str}{st:Stmt}{f:xh!}{fd:FuncData}{ps:j_}(F:u1_)
  (h:u2!):Ez K fd ps []:=by
 show"#(";exact .all (h kV bo pm an ae ct)
def oC{x:Str}{st:Stmt}{f:xh!}{od an:a4_}{dt:b6!}{kV:xL!}(l:u2_)
  (c:iV!)(k:gC!):Wz K x qual st f nq_:=⟨⟨oc,od,kV,bo,pm,an,ae,ct,dt,rfl,l,c⟩,k⟩
end
def b4b{n:Nat}(h:n<=1000):n<sizeLine:=JD h c!
def lR{A hb:Prop}(h:hb):if false=true then A else hb:=by rw[GL HF];exact h
def lQ{A hb:Prop}(h:A):if true=true then A else hb:=by rw[l!];exact h
def Bg(H H':Hp):Prop:=∀b o,H b=some o->H' b=some o
def Bg.refl(H:Hp):Bg H H:=λ_ _ h=>h
def Bg.trans{H H1 H2:Hp}(a:Bg H H1)(b:Bg H1 H2):Bg H H2:=λc o h=>b c o (a c o h)
def Bg.free{H H':Hp}(e:e2_){l:xh!}(h:H' l=Option.none):H l=Option.none:=by
 cases q:H l with
 |none=>rfl
 |some o=>
  rw[e l o q]at h;cases h
def Bg.seq{K:zT!}{H H':Hp}{a:xh!}{xs:k!}(e:e2_)(h:Et K H a xs):Et K H' a xs:=by
 rcases h with(h|⟨o,h⟩)|h
 .exact u4!
 .exact u4_
 .exact .inr h
end L2
namespace L2
open PySem PySem.Spec PyProof.Rows
def Inv.track{X:Cx}{J:l_}{Z:St}{H:Hp}{s:zS!}{D:xh!}{ys:k!}{us:h_}{n:Nat}(I:d!)
  (hD:s.heap.get? D=some {cls:=.type "list",data:=.seq us.toArray n})(r:Ba ys us)(hz:i5!)(hn:H D=none)(hs:dB_<=D)(hL:D≠X.env.locals)
  (hc:∀x c,X.env.cells.lookup x=some c->c≠D)(hp:∀p∈X.pn++J,p.1≠D):Inv X J Z (upd H D a6!) s:=by
 have ne:∀b u,H b=some u->b≠D:=λb u e=>cD e hn;refine I.step (g':=s.gens) (d':=s.drawn) (t':=s.toks) (h':=s.heap) (ch:=[D]) lA_ (λb o _ _ _ e _=>e) (λb o _ _ _ e _=>u5_) (λb o hc e n=>?_) (λb o _ e=>⟨o,e⟩)
  (λb xs e=>by rw[nr_];exact e) (λb o u e=>by rw[nr_];exact e) (λb ps e=>⟨#[],by rw[nr_,e];simp⟩) ns! qO_ I.bare
 .have e:b=D:=by simpa using O
  subst e;exact⟨.inr hs,hL,hc,hp⟩
 .rw[ns_];exact n
 .by_cases O:b=D
  .show"!w";exact⟨hz,us,n,r,hD⟩
  .rw[aV O]at e;exact(I.hok b u e).stay nt! (λc q=>by rw[aV (ne c _ q)];exact q) λc xs q=>by rw[aV (ne c _ q)];exact q
nonrec def closOf(cells:bi_):List u7!->List e3!->List e3!
 |[],acc=>acc
 |(n,k)::r,acc=>if k==.free then closOf cells r ((n,(cells.lookup n).getD 0)::acc)else closOf cells r acc
structure Yg(X:Cx)(scope:Scope)(cl:bi_):Prop where
 eq:closureFor scope X.env=pure cl
 sub:∀x c,cl.lookup x=some c->X.env.cells.lookup x=some c
 all:∀x,scope.names.lookup x=some .free->∃c,cl.lookup x=some c
def sA{env:Env}:∀(names:e3_) (acc:bi_),(∀p∈names,p.2=.free->∃c,env.cells.lookup p.1=some c)->
  (forIn names acc λx r=>(match x with|(name,kind)=>if(kind==gD_)=true then(do let a <-cellOf env name;pure u7_)else pure jm_:Sem u8_))=(pure (closOf env.cells names acc):Sem (List e3!))
 |[],acc,_=>rfl
 |(n,k)::r,acc,h=>by
  rw[LQ];cases hk:(k==gD_)with
  |true=>
   obtain⟨c,hc⟩:=h (n,k) GO u9!;have a7:env.cells.lookup n=some c:=hc;have e:cellOf env n=pure c:=by unfold cellOf;rw[a7]
   have ih:=sA r ((n,c)::acc) λp hp=>h p jn!;have e2:closOf env.cells ((n,k)::r) acc=closOf env.cells r ((n,c)::acc):=by
    show u9_;rw[a4!,a7];rfl
   rw[e2,<-ih];simp only[hk,IL,e];rfl
  |false=>
   have ih:=sA r acc λp hp=>h p jn!;have e2:closOf env.cells ((n,k)::r) acc=closOf env.cells r acc:=by
    show u9_;rw[GL (by rw[hk];exact HF)]
   rw[e2,<-ih];simp only[hk];rfl
def oJ(cells:bi_):∀(names:e3_) (acc:bi_),(∀p∈names,p.2=.free->∃c,cells.lookup p.1=some c)->(∀p∈acc,cells.lookup p.1=some p.2)->∀p∈closOf cells names acc,cells.lookup p.1=some p.2
 |[],_,_,h=>h
 |(n,k)::r,acc,hn,h=>by
  unfold closOf;split
  .rename_i hk;obtain⟨c,hc⟩:=hn (n,k) GO u9!;refine oJ cells r _ va_ λp hp=>?_;obtain rfl|hp:=GJ.mp hp
   .have a7:cells.lookup n=some c:=hc;rw[a7];rfl
   .exact h p hp
  .exact oJ cells r _ va_ h
def oM(cells:bi_):∀(names:e3_) (acc:bi_) (x:Str),(∃c,(x,c)∈acc)->∃c,(x,c)∈closOf cells names acc
 |[],_,_,h=>h
 |(n,k)::r,acc,x,h=>by
  unfold closOf;split
  .exact oM cells r _ x (let⟨c,hc⟩:=h;⟨c,GI _ hc⟩)
  .exact oM cells r _ x h
def oK(cells:bi_):∀(names:e3_) (acc:bi_) (x:Str),(x,gD_)∈names->∃c,(x,c)∈closOf cells names acc
 |[],_,_,h=>nomatch h
 |(n,k)::r,acc,x,h=>by
  unfold closOf;obtain h|h:=GJ.mp h
  .cases h;rw[GU dc!];exact oM cells r _ _ ⟨_,GO⟩
  .split
   .exact vb_
   .exact vb_
def nF{β:Type}:∀{l:List (Str×β)} {x:Str} {c:β},(x,c)∈l->∃d,l.lookup x=some d
 |[],_,_,h=>nomatch h
 |(n,k)::r,x,c,h=>by
  cases L:(x==n)with
  |true=>exact⟨k,by simp[IF,L]⟩
  |false=>
   obtain h|h:=GJ.mp h
   .cases h;simp at L
   .obtain⟨d,hd⟩:=nF h;exact⟨d,by simp[IF,L,hd]⟩
def b3n{X:Cx}{scope:Scope}(h:∀p∈b8!,p.2=.free->∃c,X.env.cells.lookup p.1=some c):∃cl,Yg X scope cl:=by
 refine⟨closOf X.env.cells scope.names [],?_,lz!,λx e=>?_⟩
 .have e:=sA (env:=X.env) scope.names [] h;simp only[closureFor];rw[show(forIn scope.names ([]:List e3!) λx r=>(match x with|(name,kind)=>if(kind==NameKind.free)=true then(do let a <-cellOf X.env name;pure u7_)else pure jm_:Sem u8_))=pure (closOf X.env.cells scope.names [])from e];rfl
 .exact oJ X.env.cells scope.names [] h qM! (x,c) (KB e)
 .obtain⟨c,hc⟩:=oK X.env.cells scope.names [] x (KB e);exact nF hc
def Nd(X:Cx)(scope:Scope)(cl:bi_)(C:xh!)(N:j_)(al:zS!)(a9:Hp)(fp:aq!):Cx:=
 {X with N:=N,s₀:=al,H₀:=a9,env:=compEnvC scope cl C X.env,outer:=X.stack,stack:=X.stack,ex:=fp,fn:=λ_=>false,pn:=[],xe:=λ_ _=>False}
def lI{env:Env}:∀{names:e3_} {x:Str},(∀y∈names,y.2≠.cell)->
  ((jo!).lookup x=some .cell\/
     (jo!).lookup x=some .free)->names.lookup x=some .free
 |[],_,_,h=>by simp at h
 |(n,k)::r,x,hc,h=>by
  have ih:=@lI env r x λy hy=>hc y dW_;have hk:k≠.cell:=hc (n,k) GO;rw[GM]at h;by_cases hf:nv_=true
  .simp only[hf,IL]at h;cases L:x==n with
   |true=>
    simp only[IF,L];simp only[HK,LU]at hf;rw[hf.1.1]
   |false=>
    simp only[IF,L]at h ⊢;exact ih h
  .simp only[hf]at h;cases L:x==n with
   |true=>
    simp only[HL,IB,IF,L]at h ⊢;obtain h|h:=h
    .cases h;exact absurd rfl hk
    .exact h
   |false=>
    show"#0";exact ih h
def lJ{env:Env}:∀{names:e3_} {x:Str},names.lookup x=some .free->
  ((jo!).lookup x=some .cell\/
     (jo!).lookup x=some .free)
 |[],_,h=>by simp at h
 |(n,k)::r,x,h=>by
  have ih:=@lJ env r x;rw[GM];by_cases hf:nv_=true
  .simp only[hf,IL];cases L:x==n with
   |true=>exact .inl (by simp[IF,L])
   |false=>
    simp only[IF,L]at h ⊢;exact ih h
  .simp only[hf];cases L:x==n with
   |true=>
    show"#0";exact .inr h
   |false=>
    show"#0";exact ih h
structure Dq(X:Cx)(scope:Scope)(NF:j_)(ix:j!):Prop where
 len:NF.length=ix.length
 at_:∀(k:Nat) (x:Str),NF[k]?=some x->∃j,ix[k]?=some j/\X.N[j]?=some x/\scope.names.lookup x=some .free/\qA!
def Dq.nil{X:Cx}:Dq X scope [] []:=⟨rfl,λk x e=>by simp at e⟩
def Dq.cons{X:Cx}{scope:Scope}{j:Nat}{ix:j!}(h:dc_)(B:vd!:=by rfl)(Y:scope.names.lookup x=some .free:=by rfl)
  (h3:X.env.kindOf x=some .cell\/X.env.kindOf x=some .free:=by first|exact Or.inl rfl|exact Or.inr rfl):Dq X scope (x::NF) (j::ix):=
 ⟨by simp[h.len],λk y e=>by
  cases k with
  |zero=>simp at e;subst e;exact⟨j,rfl,B,Y,h3⟩
  |succ k=>simpa using h.at_ k y cP_⟩
def Oy(nl:Nat)(ix:j!)(Z:St):St:=List.replicate nl none++ix.map λj=>(Z[j]?).join
def c9f{X:Cx}{J:l_}{Z:St}{H2:Hp}{s2:zS!}{scope:Scope}{cl:bi_}{fp:aq!}
  (ce:dd!)(b8:dd_)(bq:nx_)(I2:nw_)(f2:nx!)(flt:vd_)(hC:N!<=C):
  (Nd X scope cl C N s2 H2 fp).Ok where
 mod:=I2.ok.mod
 kind:=ce
 glob:=I2.ok.glob
 blt:=I2.ok.blt
 above:=hC
 inj:=λx y c B Y=>I2.ok.inj x y c (bq.sub x c B) (bq.sub y c Y)
 has:=λx h=>bq.all x (lI b8 h)
 cab:=λ_ _ h=>nomatch h
 hd:=I2.ok.hd
 frames:=I2.ok.frames
 stk:=.inl rfl
 exf:=λb O=>⟨IA (HH jo_ hC),λx c h=>(it!).2.2.2.2.1 x c gE!⟩
 bs:=I2.bs
 bsz:=HR I2.ok.bsz I2.sz
 noex:=λb o e O=>by
  obtain z|z:=(it!).2.2.2.1
  .exact I2.ok.noex b o e z
  .exact absurd (HH cS! (HR I2.ok.bsz z)) dB!
 exfs:=λb O hf=>by
  obtain⟨_,f1,f3,_⟩:=f2 b O;obtain z|z:=GJ.mp (I2.stkSub b hf)
  .exact f1 z
  .exact f3 z
 funs:=I2.stack
 frf:=I2.stkFree
def c0b{X:Cx}{J:l_}{Z:St}{H2:Hp}{s2:zS!}{scope:Scope}{cl:bi_}{D:xh!}{oD:Obj}{NL:j_}{ix:j!}{fp:aq!}{h₁:Heap}{t:Nat}{m:B_}
  (ce:dd!)(b8:dd_)(bq:nx_)(cap:dc_)(I2:nw_)(f2:nx!)(flt:vd_)
  (hC:N!<=C)(hD:N!<=D)(jh:D≠C)(ah:∀b u,s2.heap.get? b=some u->h₁.get? b=some u)(hn:h₁.Ns C m)(xk:h₁.get? D=some oD)(xl:∀v,oD.data≠.cell v):
  Inv (Nd X scope cl C gE_ s2 H2 fp) (de_++[(D,oD)]) nz! H2 {s2 with heap:=h₁,toks:=t}:=by
 refine⟨c9f ce b8 bq I2 f2 flt hC,rfl,I2.bare,Un.kept ah,⟨m,hn,qL_⟩,λx c h=>?_,I2.hok.fresh hC,λx c h=>I2.freeC x c gE!,co_,I2.hok.kept ah,?_⟩
 .have SL:gE_[i]?=some x:=e1;unfold Oy at e2;by_cases hi:i<NL.length
  .rw[JH gt!,MN]at e2;rw[GU hi]at e2;cases e2
  .rw[eS_,HY,LO]at e2;rw[eS_]at SL;obtain⟨j,hj,hN,hf,hk⟩:=cap.at_ _ _ SL;rw[hj]at e2;have vp:(Z[j]?).join=some v:=IG e2;have e4:Z[j]?=some dC!:=by
    cases q:Z[j]? with
    |none=>rw[q]at vp;cases vp
    |some o=>rw[q]at vp;exact congrArg some vp
   obtain⟨m2,_,hl⟩:=I2.loc;have hv:Ww X.env.scope x:=hk.elim (λz=>.inr jp_) λz=>.inr e5!;obtain⟨u,r,l⟩:=hl j x v hN e4 hv;refine⟨u,r,.inr ?_⟩;obtain⟨k,_⟩|⟨_,c,hc,z⟩:=l
   .obtain z|z:=hk
    .rw[z]at k;cases k
    .rw[z]at k;cases k
   .obtain⟨c',a7⟩:=bq.all x hf;have e5:=bq.sub x c' a7;rw[hc]at e5;cases e5;obtain⟨o,ho,hd⟩:=z;exact⟨lJ hf,c,a7,⟨o,ah _ _ ho,hd⟩⟩
 .obtain⟨v,o,ho,hd⟩:=I2.cell x c gE!;exact⟨v,o,ah _ _ ho,hd⟩
 .have SM:∀b,b≠X.env.locals->b∉X.fs->b∉frs X.stack:=λb B Y h3=>(GJ.mp (I2.stkSub b h3)).elim B Y;have br:p∈de_++[(D,oD)]:=by simpa[Nd]using hp
  obtain br|br:=GT.mp br
  .obtain⟨e,n,ne,nf,d⟩:=I2.pin p br;exact⟨ah _ _ e,n,IA (HH cS! hC),SM _ ne nf,d⟩
  .have e:p=(D,oD):=by simpa using br
   subst e;exact⟨xk,I2.hok.fresh hD,jh,SM _ (ND (HH I2.lt hD)) (I2.nofs hD),xl⟩
 .show(nz!).length=(gE_).length;unfold Oy;rw[GW,GW,GX,LO,cap.len]
def a3z{R:sK_}{E:p!}(I:Nat->Shared->Prop)
  (hE:∀e s',E e s'->notedBy q_ A env (λe s'=>R (.error e) s') e s')
  (turn:∀n s,I n s->wpAny q_ A (pyNext it) (λr aj=>match r with
   |none=>R (.ok .next) aj
   |some v=>wpAny q_ A (letOwnedTupleGo vd it v) (λ_ SN=>wpAny q_ A (assign vd env v) (λ_ al=>
     wpAny q_ A (forIn c8 true λc r=>if r=true then do let ok <-isTrue c env (eval c env);pure vg! else pure jm_) (λok dr=>
      if ok=true then wpAny q_ A (eval du env) (λx vq=>
       wpAny q_ A (call (.builtin "list.append") [acc,x]) (λ_ SO=>∃m,m<n/\I m SO) E vq) E dr
      else∃m,m<n/\I m dr) E al) E SN) E aj) E s)
  (n:Nat) (h:I n s):codeAny q_ A (.compLoop (.ListComp du [⟨vd,iter,c8,0⟩] scope pos) 0 it acc env) R s:=by
 refine codeAny_loop rfl I (λn s hI=>?_) n h;refine wpAny_noted ?_;rw[compTurn_list];refine GF (PD (GF (JJ (turn n s hI) (λr aj h₁=>?_) hE)));cases r with
 |none=>exact GH h₁
 |some v=>
  refine GF (JJ h₁ (λ_ SN W9=>?_) hE);refine GF (JJ W9 (λ_ al q9=>GF (JJ q9 (λok dr vj=>?_) hE)) hE);cases ok with
  |false=>exact GH ⟨rfl,vj⟩
  |true=>
   exact GF (GF (JJ vj (λx vq XA=>GF (JJ XA (λ_ SO XB=>GH (GH ⟨rfl,XB⟩)) hE)) hE))
def Pi(X:Cx)(c8:bs_)(t:TT):Prop:=
 ∀(J:l_) (s:zS!) (Z:St) (H:Hp) (Q:dD_),Inv X J Z H s->t Z H Q->
  wpAny e_ X.A (forIn c8 true λc r=>if r=true then do let ok <-isTrue c X.env (eval c X.env);pure vg! else pure jm_) h3_ X.xe s
def AH:TT:=λ_ H Q=>Q true H
def a5q{X:Cx}:Pi X [] AH:=λJ s Z H Q I h=>wpAny_tests_nil ⟨H,I,h⟩
def a5p{X:Cx}{t:TT}(h:PT X c t):Pi X [c] t:=λJ s Z H Q I hw=>wpAny_tests_one rn_
def Vl(ac:It)(g:TG)(tt:TT)(te:TE)(Fin:cU!)(Z:St)(H:Hp):Prop:=∃W:Nat->Nat->List V->St->Hp->Prop,(∃m,W 0 m [] Z H)/\∀i m ys Z H,W i m ys Z H->M_<=sizeLine/\
 ((ac.stop i H/\Fin ys H)\/(ac.go i H/\∀x H',ac.yld i H x H'->g x Z H' λc7 H2=>tt c7 H2 λb H3=>if b=true then te c7 H3 λy H4=>∃m',m'<m/\W a1! m' (ys++[y]) c7 H4 else∃m',m'<m/\W a1! m' ys c7 H3))
abbrev Tq(us:h_)(n:Nat):Obj:={cls:=.type "list",data:=.seq us.toArray n}
def a0b{X:Cx}{scope:Scope}{NL:j_}{ix:j!}{cl:bi_}{g:TG}{tt:TT}{te:TE}{E:p!}
  {J:l_}{Z:St}{H2:Hp}{s2:zS!}{fp:aq!}{tn:dI_}{ac:It}{Fin:cU!}{RR:Value->Addr->Result->Shared->Prop}
  (ce:dd!)(b8:dd_)(bq:nx_)(cap:dc_)(calm:bu!)
  (hg:∀C al a9 fp,PG b9_ tg g)(hi:∀C al a9 fp,Pi b9_ c8 tt)(he:∀C al a9 fp,PE b9_ du te)
  (I2:nw_)(T:Qx X.prog X.w X.K tg ac fp it tn)(bj:tn 0 s2.heap)(f2:nx!)(hw:Vl ac g tt te Fin nz! H2)
  (XC:∀(D C:xh!) (us:h_) (n:Nat) (ys:k!) (H':Hp) (s':zS!),Inv X J Z H' s'->s'.heap.get? D=some (Tq us n)->Ba ys us->M_<=sizeLine->H' D=none->N!<=D->N!<=C->D≠C->H' C=none->
   (∃m,s'.heap.Ns C m)->Fin ys H'->RR (.ref D) C (.ok .next) s'):
  wpAny e_ X.A (newList []) (λacc dr=>wpAny e_ X.A (newFunctionEnv scope X.env.globals cl [] X.env.qual none .none (some X.env)) (λSQ vq=>
   codeAny e_ X.A (.compStart gG! 0 bZ_ acc {SQ with scope:=relabel scope X.env}) (RR acc SQ.locals) vq) E dr) E s2:=by
 obtain⟨W,⟨m0,w0⟩,turn⟩:=hw;have flt:∀b∈fp,b<N!:=λb O=>let⟨o,e,_⟩:=T.obj _ _ bj b O;HI e;refine JN (wpAny_newFunctionEnv b8 (by intro y hy;simp at hy) (λh₁ xy vt=>?_) ce);dsimp only at xy vt ⊢;generalize xz:s2.heap.push {cls:=.type "list",dict:=none,data:=.seq (vj!).toArray}=G2 at xy vt ⊢;have hC:gG_=N!+1:=by rw[<-xz,MU]
 have jh:N!≠gG_:=by rw[hC];exact IA eO_
 have SS:N!<=gG_:=by rw[hC];exact OH _
 have SU:∀b,b<N!->b≠gG_:=λb O=>by rw[hC];exact IA (Nat.lt_succ_of_lt O)
 have ah:∀b o,s2.heap.get? b=some o->h₁.get? b=some o:=λb o e=>vt.extBut b o (SU b cS!) (GK _ (xz▸GK _ e));have XD:h₁.get? N!=some (Tq [] 0):=vt.extBut _ _ jh (GK _ (xz▸HG _ rfl));have ig:tn 0 h₁:=T.keep _ _ _ bj λb _ o e=>ah b o e;have I1:=c0b (NL:=NL) (t:=s2.toks+(vj_).length) ce b8 bq cap I2 f2 flt SS y_ jh ah xy XD vk!;have mi:∀{H':Hp} {oD:Obj},ga!->∀b∈fp,Iw dY_ (de_++[(N!,oD)]) H' b:=λ{H' oD} hn b O=>by
  obtain⟨_,f1,f3,f4,f5,f6⟩:=f2 b O;refine⟨hn b O,SU b jo_,λz=>(GJ.mp (I2.stkSub b z)).elim f1 f3,.inl O,λx c h=>f5 x c gE!,co_⟩;have br:p∈de_++[(N!,oD)]:=by simpa[Nd]using hp
  obtain br|br:=GT.mp br
  .exact f6 p br
  .have e:p=(N!,oD):=by simpa using br
   subst e;exact ND jo_
 have SV:∀dr:Shared,dr={s2 with heap:=h₁,toks:=s2.toks+(vj_).length}->
   codeAny e_ X.A (.compLoop gG! 0 bZ_ (.ref N!) (compEnvC scope cl G2.objs.size X.env)) (RR (.ref N!) gG_) dr:=by
  rintro dr rfl;refine a3z (E:=vl!) (λk s'=>∃i ys us n hx H',Inv dY_ (de_++[jr!]) hx H' s'/\tn i s'.heap/\ga!/\Ba ys us/\W i k ys hx H')
   (λ_ _ z=>z.elim) ?_ m0 ⟨0,[],[],0,_,H2,I1,ig,r0!,.nil,w0⟩
  rintro k s' ⟨i,ys,us,n,hx,H',I',h1,SW,rv,w'⟩;obtain⟨ak,ya⟩:=turn i k ys hx H' w';obtain⟨stop,fin⟩|⟨go,step⟩:=ya
  .refine cZ (T.done dY_ rfl rfl rfl calm i _ s' hx H' _ I' (mi SW) h1 stop) λr s4 ⟨hr,I4⟩=>?_;subst hr;have SX:=I4.pin jr! (by simp[Nd]);have IX:Inv X J Z H' s4:=I2.call' (ch:=fp) I4.os I4.base I4.hok I4.bare λb O=>by
    obtain⟨_,f1,f3,f4,f5,f6⟩:=f2 b O;exact⟨f4,f1,f5,f6⟩
   obtain⟨mC,XE,_⟩:=I4.loc;exact XC _ _ us n ys H' s4 IX SX.1 rv ak SX.2.1 y_ SS jh I4.free ⟨mC,XE⟩ fin
  .refine cZ (T.item dY_ rfl rfl rfl calm i _ s' hx H' _ I' (mi SW) h1 go) λr s4 ⟨u,hr,h4⟩=>?_;subst hr;refine cZ h4 λ_ s5 ⟨x,H5,I5,r5,y5,mj,xg⟩=>?_;have xh:=I5.pinned (mi xg) r2!;refine cZ (hg _ _ _ _ _ s5 hx H5 x u _ xh r5 r2_) λ_ s6 ⟨lb,H6,I6,q6⟩=>?_;refine cZ (hi _ _ _ _ _ s6 lb H6 _ I6 q6) λok s7 ⟨H7,I7,q7⟩=>?_;have SY:∀{SZ:St} {H8:Hp} {s8:zS!},Inv dY_ ((de_++[jr!])++Qq fp s5.heap) SZ H8 s8->tn a1! s8.heap/\∀b∈fp,H8 b=none:=λ{SZ H8 s8} I8=>by
    refine⟨T.keep _ _ _ mj λb O o e=>(vm_).1,be!⟩;obtain⟨o,e,d⟩:=T.obj _ _ mj b O;exact(vm_).2.1
   cases ok with
   |false=>
    simp only[HL,IB]at q7 ⊢;obtain⟨m',hm,w7⟩:=q7;obtain⟨t7,n7⟩:=SY I7;exact⟨m',hm,i+1,ys,us,n,lb,H7,iu!,t7,n7,rv,w7⟩
   |true=>
    simp only[IL]at q7 ⊢;refine cZ (he _ _ _ _ _ s7 lb H7 _ I7 q7) λyv s8 ⟨y,H8,I8,r8,m',hm,w8⟩=>?_;obtain⟨t8,n8⟩:=SY I8;have pD:=I8.pin jr! (GV _ (HJ _ c_));have XF:ap_=M_:=rv.length.symm;refine wpAny_list_append_plain (items:=cC_) (hsz:=by simpa[XF]using ak) ⟨n,pD.1⟩ λh9 XG S'=>?_;obtain⟨n9,e9⟩:=XG;have XH:Inv dY_ de_ lb H8 s8:=I8.pins_of λp hp=>I8.pin p (GV _ (HJ _ (HJ _ hp)));have I9:Inv dY_ de_ lb H8 {s8 with heap:=h9,toks:=s8.toks}:=by
     refine XH.turned (it:=N!) (λb o O e=>(S'.2 b O).trans e) pD.2.1 jh (.inr y_) (λx c h=>?_) λp hp=>?_
     .obtain⟨v,o,ho,_⟩:=I2.cell x c gE!;exact IA hU!
     .have br:p∈X.pn++J:=by simpa[Nd]using hp
      exact IA (HI (I2.pin p br).1)
    have XI:h9.get? N!=some (Tq (us++[yv]) n9):=by
     rw[e9,List.push_toArray]
    refine⟨m',hm,i+1,ys++[y],us++[yv],n9,lb,H8,I9.pins_of λp hp=>?_,T.keep _ _ _ t8 λb O o e=>(S'.2 b (IA jo_)).trans e,n8,rv.append (.cons r8 .nil),w8⟩;obtain hp|hp:=GT.mp hp
    .exact I9.pin p (GV _ hp)
    .have e:p=(N!,Tq (us++[yv]) n9):=by simpa using hp
     subst e;exact⟨XI,pD.2.1,pD.2.2.1,pD.2.2.2.1,js!⟩
 exact codeAny_compStart_list (SV _ rfl) (T.self _ 0 _ _ _ ig (SV _ rfl))
def Ym(nl:Nat)(ix:j!)(wi:TI)(g:TG)(tt:TT)(te:TE):TE:=λZ H Q=>wi Z H λac H1=>Vl ac g tt te (λys H'=>∀p,H' p=none->Q c5! (upd H' p a6!)) (Oy nl ix Z) H1
def b2b{X:Cx}{scope:Scope}{NL:j_}{ix:j!}{wi:TI}{g:TG}{tt:TT}{te:TE}
  (ce:dd!)(b8:dd_)(j4:∀y∈b8!,y.2=.local->scope.names.lookup y.1=some .local)
  (g9:gH_)(cap:dc_)(calm:bu!)(az:md_)
  (hg:gI!)(hi:vo_)(he:vp!)
  (hs:c2_:=by intro _;rfl):
  PE X gG! vp_:=by
 show"!F";show"!U"
 rw[eval_ListComp];refine wpAny_comprehension_free (use:=none) rfl hs bq.eq ce j4 vq!;obtain⟨it,fp,tn,ac,H2,e,I2,T,bj,f2,hw⟩:=Y;subst e;refine a0b (RR:=λacc C=>compPost e_ X.A X.xe none aJ! acc C) ce b8 bq cap calm (hg cl) (hi cl) (he cl) I2 T bj f2 hw λD C us n ys H' s' I' eD rv ak nD hD hC jh nC ⟨m,hn⟩ fin=>?_;refine⟨m,hn,λh' bu=>?_⟩;have ff:∀b,b<N!->b≠C/\b≠D:=λb O=>vr!;have pp:∀x c,X.env.cells.lookup x=some c->c<N!:=λx c h=>let⟨_,_,ho,_⟩:=I2.cell x c h;HI ho;have rg:∀p∈X.pn++J,p.1<N!:=λp hp=>HI (I2.pin p hp).1;have IC:Inv X J Z H' {s' with heap:=h',toks:=s'.toks}:=I'.turned (it:=C) vr_ nC (GN (gI_).1) vs! vt! λp hp=>(jt!).1;have ID:=IC.track (D:=D) (us:=us) (n:=n) ((bu.2 D jh).trans eD) rv ak nD (HR I2.sz hD) (GN (gI_).2) vt_ λp hp=>(jt!).2;exact⟨.ref D,_,ID,rfl,fin D nD⟩
end L2
namespace DL
open PySem PySem.Spec PyProof.Rows L2
abbrev St:=L2.St
inductive D where
 |non|bl (b:Bool)|int (i:Int)|str (x:Str)|tup (xs:b_)|lst (xs:b_)|fn (a:xh!)|dk (kvs:nF!)
mutual
noncomputable def Ar(K:zT!)(H:Hp):D->V->Prop
 |.non,v=>v=V.non
 |.bl b,v=>v=V.bl b
 |.int i,v=>v=V.int i
 |.str x,v=>v=V.str x
 |.tup xs,v=>∃a vs,v=V.ref a/\Fz K H a vs/\Am K H xs vs
 |.lst xs,v=>∃a vs,v=V.ref a/\Et K H a vs/\Am K H xs vs
 |.fn a,v=>v=V.ref a
 |.dk kvs,v=>∃a,v=V.ref a/\Rd H a dM_
noncomputable def Am(K:zT!)(H:Hp):List D->List V->Prop
 |[],vs=>vs=[]
 |d::ds,vs=>∃v r,vs=v::r/\Ar K H d v/\Am K H ds r
end
mutual
noncomputable def Ei:D->Bool
 |.lst _=>false
 |.dk _=>false
 |.tup xs=>Fd xs
 |_=>true
noncomputable def Fd:List D->Bool
 |[]=>true
 |d::ds=>Ei d&&Fd ds
end
mutual
noncomputable def Hn:D->Nat
 |.lst xs=>Dz xs+1
 |.tup xs=>Dz xs+1
 |_=>0
noncomputable def Dz:List D->Nat
 |[]=>0
 |d::ds=>max (Hn d) (Dz ds)
end
section
variable{K:zT!}{H H':Hp}
mutual
theorem Ar.map(ht:jt_)(hl:vu!)(hd:vu_):∀(d:D) (v:V),Ar K H d v->Ar K H' d v
 |.non,_,h=>h
 |.bl _,_,h=>h
 |.int _,_,h=>h
 |.str _,_,h=>h
 |.tup xs,_,h=>by
  show"!W";exact⟨a,vs,e,ht a vs q,vv_⟩
 |.lst xs,_,h=>by
  show"!W";exact⟨a,vs,e,hl a vs q,vv_⟩
 |.fn _,_,h=>h
 |.dk kvs,_,h=>by
  unfold Ar at h ⊢;obtain⟨a,e,q⟩:=h;exact⟨a,e,hd a kvs q⟩
theorem Am.map(ht:jt_)(hl:vu!)(hd:vu_):∀(ds:b_) (vs:k!),Am K H ds vs->Am K H' ds vs
 |[],_,h=>h
 |d::ds,_,h=>by
  unfold Am at h ⊢;obtain⟨v,r,e,q,t⟩:=h;exact⟨v,r,e,Ar.map ht hl hd d v q,Am.map ht hl hd ds r t⟩
end
mutual
theorem Ar.mapT(ht:jt_):∀(d:D) (v:V),Ei d=true->Ar K H d v->Ar K H' d v
 |.non,_,_,h=>h
 |.bl _,_,_,h=>h
 |.int _,_,_,h=>h
 |.str _,_,_,h=>h
 |.tup xs,_,n,h=>by
  unfold Ei at n;show"!W";exact⟨a,vs,e,ht a vs q,Am.mapT ht xs vs n r⟩
 |.lst xs,_,n,_=>by
  unfold Ei at n;cases n
 |.fn _,_,_,h=>h
 |.dk _,_,n,_=>by
  unfold Ei at n;cases n
theorem Am.mapT(ht:jt_):∀(ds:b_) (vs:k!),Fd ds=true->Am K H ds vs->Am K H' ds vs
 |[],_,_,h=>h
 |d::ds,_,n,h=>by
  unfold Fd at n;rw[HK]at n;unfold Am at h ⊢;obtain⟨v,r,e,q,t⟩:=h;exact⟨v,r,e,Ar.mapT ht d v n.1 q,Am.mapT ht ds r n.2 t⟩
end
def bS(e:e2_){a:xh!}(h:Fz K H a xs):Fz K H' a xs:=by
 rcases h with(h|⟨o,h⟩)|h
 .exact u4!
 .exact u4_
 .exact .inr h
def b1l(e:e2_){a:xh!}{o:HO}(h:Rd H a o):Rd H' a o:=by
 obtain h|⟨u,h⟩:=h
 .exact .inl (e _ _ h)
 .exact .inr ⟨u,e _ _ h⟩
def Ar.mono(e:e2_)(h:gJ!):Ar K H' d v:=Ar.map vx! vw! vw_ d v h
def Am.mono(e:e2_)(h:cD!):Am K H' ds vs:=Am.map vx! vw! vw_ ds vs h
def Ar.non:Ar K H .non V.non:=by unfold Ar;rfl
def Ar.bl{b:Bool}:Ar K H bI! (V.bl b):=by unfold Ar;rfl
def Ar.int{i:Int}:Ar K H bb_ (V.int i):=by unfold Ar;rfl
def Ar.str:Ar K H dE! (V.str x):=by unfold Ar;rfl
def Ar.fn{a:xh!}:Ar K H dg_ e7!:=by unfold Ar;rfl
def Ar.tup{a:xh!}(h:Fz K H a vs)(r:cD!):Ar K H dh! e7!:=by unfold Ar;exact vx_
def Ar.lst{a:xh!}(h:Et K H a vs)(r:cD!):Ar K H cD_ e7!:=by unfold Ar;exact vx_
def Am.nil:Am K H [] []:=by unfold Am;rfl
def Am.cons(h:gJ!)(t:cD!):Am K H d1! (v::vs):=by unfold Am;exact⟨v,vs,rfl,h,t⟩
def aI:∀{ds:b_} {vs:k!},Am K H ds vs->f_=bx_
 |[],vs,h=>by unfold Am at h;subst h;rfl
 |d::ds,vs,h=>by
  unfold Am at h;obtain⟨v,r,e,_,t⟩:=h;rw[e,GS,GS,aI t]
def eW:∀{ds:b_} {vs:k!} {i:Nat} {d:D},Am K H ds vs->ds[i]?=some d->∃v,vs[i]?=some v/\Ar K H d v
 |[],_,_,_,_,e=>by simp at e
 |c::ds,vs,i,d,h,e=>by
  unfold Am at h;obtain⟨v,r,e1,q,t⟩:=h;subst e1;cases i with
  |zero=>simp at e;subst e;exact⟨v,rfl,q⟩
  |succ i=>
   obtain⟨u,B,Y⟩:=eW (i:=i) (d:=d) t cP_;exact⟨u,hN!,Y⟩
def cS:∀{ds es:b_} {vs ws:k!},Am K H ds vs->Am K H es ws->Am K H (ds++es) (vs++ws)
 |[],_,_,_,h,k=>by unfold Am at h;subst h;exact k
 |c::ds,_,vs,_,h,k=>by
  show"!L";exact Am.cons q (cS t k)
def mE:∀{ds:b_} {vs:k!} (n:Nat),Am K H ds vs->Am K H (ds.take n) (vs.take n)
 |_,_,0,_=>Am.nil
 |[],_,n+1,h=>by unfold Am at h;subst h;exact Am.nil
 |c::ds,vs,n+1,h=>by
  show"!L";exact Am.cons q (mE n t)
def qV:∀{ds:b_} {vs:k!} (n:Nat),Am K H ds vs->Am K H nJ! (vs.drop n)
 |_,_,0,h=>h
 |[],_,n+1,h=>by unfold Am at h;subst h;exact Am.nil
 |c::ds,vs,n+1,h=>by
  show"!L";exact qV n t
def vG(hd:gJ!):∀{ds:b_} {vs:k!} (n:Nat),Am K H ds vs->Am K H (ds.set n d) (vs.set n v)
 |[],_,_,h=>by unfold Am at h;subst h;exact Am.nil
 |c::ds,vs,n,h=>by
  unfold Am at h;obtain⟨u,r,e1,q,t⟩:=h;subst e1;cases n with
  |zero=>exact Am.cons hd t
  |succ n=>exact Am.cons q (vG hd n t)
def cU(h:Am K H [] vs):vs=[]:=by unfold Am at h;exact h
def bQ(h:Am K H d1! vs):∃v r,vs=v::r/\Ar K H d v/\Am K H ds r:=by unfold Am at h;exact h
def bN(h:Ar K H dh! v):∃a vs,v=V.ref a/\Fz K H a vs/\Am K H ds vs:=by unfold Ar at h;exact h
def bJ(h:Ar K H cD_ v):∃a vs,v=V.ref a/\Et K H a vs/\Am K H ds vs:=by unfold Ar at h;exact h
def aX{i:Int}(h:Ar K H bb_ v):v=V.int i:=by unfold Ar at h;exact h
def cX{i:Bool}(h:Ar K H (.bl i) v):v=V.bl i:=by unfold Ar at h;exact h
def bT(h:Ar K H jv_ v):v=V.str i:=by unfold Ar at h;exact h
def dW(h:Ar K H .non v):v=V.non:=by unfold Ar at h;exact h
def fA{a:xh!}(h:Ar K H dg_ v):v=V.ref a:=by unfold Ar at h;exact h
def c6n{kvs:nF!}(h:Ar K H (.dk kvs) v):∃a,v=V.ref a/\Rd H a dM_:=by unfold Ar at h;exact h
def hX{o:HO}(h:cE!):Bg H e9!:=λb u e=>by rw[aV (cD e h)];exact e
def eK(h:cE!)(r:cD!):Ar K (upd H p (.tup vs)) dh! nJ_:=Ar.tup (Fz.of bP) vy_
def dQ(h:cE!)(r:cD!):Ar K jx! cD_ nJ_:=Ar.lst (Et.of bP) vy_
end
structure Ce(G H G' H':Hp):Prop where
 g:Bg G G'
 h:Bg H H'
 sub:Bg G' H'
 new:∀b,G' b≠none->G b≠none\/H b=none
def Ce.refl{G H:Hp}(s:K!):Ce G H G H:=⟨e9_,Bg.refl H,s,jy!⟩
def Ce.trans{G H G1 H1 G2 H2:Hp}(a:Ce G H G1 H1)(b:Ce G1 H1 G2 H2):Ce G H G2 H2:=
 ⟨a.g.trans b.g,a.h.trans b.h,b.sub,λc h=>(b.new c h).elim (λz=>a.new c z) λz=>.inr (a.h.free z)⟩
def Ce.laid{G H:Hp}{o:HO}(s:K!)(hp:cE!):Ce G H (upd G p o) e9!:=by
 refine⟨hX (s.free hp),hX hp,jy_,bk_⟩
 .by_cases O:b=p
  .subst O;rw[bP]at e ⊢;exact e
  .rw[aV O]at e ⊢;exact s b u e
 .by_cases O:b=p
  .subst O;exact .inr hp
  .rw[aV O]at h;exact .inl h
abbrev Ad:=List (Option D)
structure OR(K:zT!)(own:j!)(G H:Hp)(Z:St)(ρ:Ad):Prop where
 sub:Bg G H
 len:gL!=fS_
 at_:∀(i:Nat) (d:D),ρ[i]?=some d2!->i∉own->∃v,Z[i]?=some dC!/\Ar K G d v
 own_:∀i∈own,∃p ds vs,ρ[i]?=some nK_/\Z[i]?=some ca_/\H p=some dh_/\G p=none/\Am K G ds vs
 dis:∀i∈own,∀j∈own,i≠j->∀p q,Z[i]?=some ca_->Z[j]?=some (some (V.ref q))->p≠q
def OR.grow{K:zT!}{own:j!}{G H G' H':Hp}{Z:St}{ρ:Ad}(h:cb!)(x:jz!):OR K own G' H' Z ρ where
 sub:=x.sub
 len:=h.len
 at_:=λi d q n=>let⟨v,B,Y⟩:=h.at_ i d q n;vA_
 own_:=λi hi=>by
  obtain⟨p,ds,vs,B,Y,h3,h4,h5⟩:=h.own_ i hi;refine⟨p,ds,vs,B,Y,x.h _ _ h3,?_,h5.mono x.g⟩;cases q:G' p with
  |none=>rfl
  |some o=>
   rcases x.new p b7_ with z|z
   .exact absurd h4 z
   .rw[h3]at z;cases z
 dis:=h.dis
def OR.set{K:zT!}{own:j!}{G H:Hp}{Z:St}{ρ:Ad}{i:Nat}(h:cb!)(hi:bl!)(r:cb_):OR K own G H ew! bN_ where
 sub:=h.sub
 len:=by rw[KD,KD,h.len]
 at_:=λj c q n=>by
  by_cases hj:i=j
  .subst hj;by_cases hi:i<gL!
   .rw[IZ hi]at q;cases q;exact⟨v,by rw[IZ (by rw[<-h.len];exact hi)],r⟩
   .rw[IS (by rw[KD];omega)]at q;cases q
  .rw[HX hj]at q;rw[HX hj];exact h.at_ j c q n
 own_:=λj hj=>by
  have ne:i≠j:=λe=>hi (e▸hj);rw[HX ne,HX ne];exact h.own_ j hj
 dis:=λj hj k hk b9 p q e1 e2=>by
  have ne:i≠j:=λe=>hi (e▸hj);have yb:i≠k:=λe=>hi (e▸hk);rw[HX ne]at e1;rw[HX yb]at e2;exact h.dis j hj k hk b9 p q e1 e2
def Jk(own:j!)(Z:St):List Addr:=own.filterMap λi=>match Z[i]? with|some (some (V.ref p))=>some p|_=>none
def mO{own:j!}{Z:St}(h:p∈Jk own Z):∃i∈own,Z[i]?=some ca_:=by
 obtain⟨i,hi,e⟩:=LI.mp h;refine⟨i,hi,?_⟩;show"!6"
 .rename_i q he;cases e;exact he
 .cases e
def a5g{own:j!}{Z:St}{i:Nat}(hi:d3_)(h:vC!):p∈Jk own Z:=LI.mpr ⟨i,hi,by rw[h]⟩
def Km(own:j!)(Z:St)(G H:Hp):Hp:=λb=>if b∈Jk own Z then H b else G b
def OR.full{K:zT!}{own:j!}{G H:Hp}{Z:St}{ρ:Ad}(h:cb!):OR K [] fa! H Z ρ:=by
 have s1:Bg G fa!:=λb o e=>by
  unfold Km;split
  .exact h.sub b o e
  .exact e
 have s2:Bg fa! H:=λb o e=>by
  unfold Km at e;show"!6"
  .exact e
  .exact h.sub b o e
 refine⟨s2,h.len,nL!,al_,al_⟩;by_cases hi:i∈own
 .obtain⟨p,ds,vs,B,Y,h3,h4,h5⟩:=h.own_ i hi;rw[B]at q;cases q;refine⟨_,Y,Ar.lst (Et.of (xs:=vs) ?_) (h5.mono s1)⟩;unfold Km;rw[GU (a5g hi Y)];exact h3
 .obtain⟨v,B,Y⟩:=h.at_ i d q hi;exact⟨v,B,Y.mono s1⟩
def Le(ρ ρ':Ad):Prop:=gL!=ρ'.length/\∀(i:Nat) (d:D),ρ[i]?=some d2!->ρ'[i]?=some d2!
def OR.le{K:zT!}{G H:Hp}{Z:St}{ρ ρ':Ad}(h:OR K [] G H Z ρ')(l:Le ρ ρ'):OR K [] G H Z ρ:=⟨h.sub,l.1.trans h.len,λi d q n=>h.at_ i d (l.2 i d q) n,al_,al_⟩
def Le.set{ρ ρ':Ad}{i:Nat}(h:Le ρ ρ')(hi:ρ[i]?=some none):Le ρ (ρ'.set i d2!):=by
 refine⟨by rw[KD];exact h.1,λj c q=>?_⟩;have:i≠j:=λe=>by subst e;rw[hi]at q;cases q
 rw[HX this];exact h.2 j c q
def Le.refl(ρ:Ad):Le ρ ρ:=⟨rfl,λ_ _ h=>h⟩
def Ya(nl:Nat)(ix:j!)(ρ:Ad):Ad:=List.replicate nl none++ix.map λj=>(ρ[j]?).join
def OR.cap{K:zT!}{own:j!}{G H:Hp}{Z:St}{ρ:Ad}(h:cb!)(nl:Nat)(ix:j!)(L:jz_):OR K [] G H (Oy nl ix Z) nN_:=by
 unfold Oy Ya;refine⟨h.sub,H!,nL!,al_,al_⟩;by_cases hi:i<nl
 .rw[JH gt!,MN,GU hi]at q;cases q
 .rw[eS_,HY,LO]at q;rw[eS_,HY,LO];cases e:ix[i - nl]? with
  |none=>rw[e]at q;cases q
  |some j=>
   rw[e]at q;have q':(ρ[j]?).join=some d:=IG q;have q2:ρ[j]?=some d2!:=by
    cases z:ρ[j]? with
    |none=>rw[z]at q';cases q'
    |some o=>rw[z]at q';exact congrArg some q'
   obtain⟨v,B,Y⟩:=h.at_ j d q2 (L j (NH e));exact⟨v,by simp[B],Y⟩
inductive tD(K:zT!)(own:j!)(f:d_)(Z:St)(H:Hp)(Q:VK):Prop
 |mk (G:Hp) (ρ:Ad) (d:D) (o:cb!) (e:cE_) (k:∀v G' H',Ce G H G' H'->Ar K G' d v->Q v H'):tD K own f Z H Q
inductive EY(K:zT!)(own:j!)(f:am!)(Z:St)(H:Hp)(Q:cU!):Prop
 |mk (G:Hp) (ρ:Ad) (ds:b_) (o:cb!) (e:f ρ=some ds) (k:∀vs G' H',Ce G H G' H'->Am K G' ds vs->Q vs H'):EY K own f Z H Q
inductive Yz(K:zT!)(own:j!)(f:af_)(Z:St)(H:Hp)(Q:dD_):Prop
 |mk (G:Hp) (ρ:Ad) (b:Bool) (o:cb!) (e:f ρ=some b) (k:∀G' H',Ce G H G' H'->Q b H'):Yz K own f Z H Q
structure DE(X:Cx)(own:j!)(e:Expr)(f:d_):Prop where
 ok:PE X e (tD X.K own f)
structure DA(X:Cx)(own:j!)(es:bs_)(f:am!):Prop where
 ok:PA X es (EY X.K own f)
structure DT(X:Cx)(own:j!)(e:Expr)(f:af_):Prop where
 ok:PT X e vF_
structure DW(X:Cx)(own:j!)(e:Expr)(f:af_):Prop where
 ok:PW X e vF_
section
variable{X:Cx}{own:List Nat}{e a b c:Expr}{es:List Expr}{pos:Pos}{f fa fb fc:Ad->Option D}{fs:Ad->Option (List D)}{ft fu:Ad->Option Bool}
def eE{t:TE}(h:h7_)(hw:∀Z G H Q ρ d,OR X.K own G H Z ρ->f ρ=some d->(∀v G' H',Ce G H G' H'->Ar X.K G' d v->Q v H')->t Z H Q):DE X own e f:=vG!
def c0z{t:TA}(h:go!)(hw:∀Z G H Q ρ d,OR X.K own G H Z ρ->fs ρ=some d->(∀v G' H',Ce G H G' H'->Am X.K G' d v->Q v H')->t Z H Q):DA X own es fs:=⟨λp J s Z H Q I ⟨G,ρ,d,er,e,k⟩=>h p J s Z H Q I nO!⟩
def xC{t:TT}(h:PT X e t)(hw:vG_):DT X own e ft:=vG!
def c5z{t:TT}(h:PW X e t)(hw:vG_):DW X own e ft:=⟨λwh J s Z H Q I ⟨G,ρ,d,er,e,k⟩=>h wh J s Z H Q I nO!⟩
def Nx(f:d_):Ad->Option D:=λρ=>(ag!).bind λd=>if Ei d then some d else none
def b3k(h:DE X [] e f):DE X own e (Nx f):=eE h.ok λZ G H Q ρ d er e k=>by
 obtain⟨d',e1,e2⟩:=GG.mp e;split at e2
 .rename_i hn;cases e2;refine⟨Km own Z G H,ρ,d,er.full,e1,λv G' H' x r=>?_⟩;have XJ:∀b,b∈Jk own Z->∃vs,G' b=some dh_:=λb O=>by
   show"!N";refine⟨vs,x.g _ _ ?_⟩;unfold Km;rw[GU O];exact h3
  have hG:∀b,b∈Jk own Z->G b=none:=λb O=>by
   show"!N";exact h4
  refine k v (λb=>if b∈Jk own Z then none else G' b) H' ⟨λb o z=>?_,x.h,λb o z=>?_,λb z=>?_⟩ (Ar.mapT (λa vs q=>?_) d v hn r)
  .have O:b∉Jk own Z:=λO=>by rw[hG b O]at z;cases z
   show nO_=some o;rw[GL O];refine x.g _ _ ?_;unfold Km;rw[GL O];exact z
  .have z':nO_=some o:=z;split at z'
   .cases z'
   .exact x.sub _ _ z'
  .have z':nO_≠none:=z;split at z'
   .exact absurd rfl z'
   .rename_i O;obtain y|y:=x.new b z'
    .unfold Km at y;rw[GL O]at y;exact .inl y
    .exact .inr y
  .have ne:∀u,G' a=some u->(∀ws,u≠.lst ws)->(if a∈Jk own Z then none else G' a)=some u:=λu e1 hu=>by
    rw[GL (λO=>by obtain⟨ws,e2⟩:=XJ a O;rw[e1]at e2;exact hu ws (IG e2))];exact e1
   rcases q with(q|⟨o,q⟩)|q
   .exact .inl (.inl (ne _ q λ_ z=>nomatch z))
   .exact .inl (.inr ⟨o,ne _ q λ_ z=>nomatch z⟩)
   .exact .inr q
 .cases e2
def Aa(i:Nat):Ad->Option D:=λρ=>(ρ[i]?).join
nonrec def fC(d:D):Ad->Option D:=λ_=>some d
def join_some{ρ:Ad}{i:Nat}(h:(ρ[i]?).join=some d):ρ[i]?=some d2!:=by
 cases z:ρ[i]? with
 |none=>rw[z]at h;cases h
 |some o=>rw[z]at h;exact congrArg some h
def aA(i:Nat){x:Str}(hi:bl!:=by decide)(hN:ah_:=by rfl)(hv:cU_:=by first|exact Or.inl rfl|exact Or.inr a_|exact Or.inr bl_)(hd:F!:=by decide)
  (bv:cV!:=by decide):DE X own cV_ (Aa i):=
 eE jB_ λZ G H Q ρ d er e k=>let⟨v,B,Y⟩:=er.at_ i d (join_some e) hi;⟨v,B,k v G H gO_ Y⟩
def c0y{t:TE}(h:h7_)(ht:∀Z H Q,Q v H->t Z H Q)(r:∀H,Ar X.K H d v):DE X own e (fC d):=
 eE h λZ G H Q ρ d' er e' k=>by
  cases e';exact ht Z H Q (k v G H gO_ (r G))
def aB{i:Int}{j:Nat}:DE X own ra! (fC bb_):=c0y c6x gP! λ_=>Ar.int
def aP{j:Nat}:DE X own (.Constant jv_ j pos) (fC jv_):=c0y b8a gP! λ_=>Ar.str
def gR{i:Bool}{j:Nat}:DE X own (.Constant (.bool i) j pos) (fC (.bl i)):=c0y d0r gP! λ_=>Ar.bl
def dI{j:Nat}:DE X own rb! cd!:=c0y c6w gP! λ_=>Ar.non
def c4t{x:Str}{i:Int}(hg:R!)(hm:X.mg x=some dx_)(hd:F!:=by decide):DE X own cV_ (fC bb_):=
 c0y (c2y (v:=V.int i) hg hm no_ hd) gP! λ_=>Ar.int
nonrec def f2(g:aW!)(fa fb:d_):Ad->Option D:=λρ=>(d5!).bind λx=>(gP_).bind λy=>g x y
def Ic(K:zT!)(r:R2)(g:aW!):Prop:=∀{x y:V} {dx dy d:D} {G H:Hp} {Q:VK},Bg G H->Ar K G dx x->Ar K G dy y->g dx dy=some d->jC_->r x y H Q
def two{g:aW!}{r:R2}(hg:d5_){Z:St}{G H:Hp}{Q:VK}{ρ:Ad}(er:vJ!)(e:f2 g fa fb ρ=some d)(k:∀v G' H',Ce G H G' H'->Ar X.K G' d v->Q v H'):
  AB r (tD X.K own fa) (tD X.K own fb) Z H Q:=by
 unfold f2 at e;show"!;";obtain⟨y,e2,e⟩:=GG.mp e;exact⟨G,ρ,x,er,e1,λu G1 H1 s1 r1=>⟨G1,ρ,y,di_,e2,λw G2 H2 s2 r2=>hg s2.sub gQ! r2 e λv G' H' s3 r3=>k v G' H' (s1.trans gQ_) r3⟩⟩
def aT{op:Operator}{r:R2}{g:aW!}(ho:mg!)(hg:d5_)(ha:Q_)(O:cd_):DE X own mg_ jD!:=
 eE vL_ λZ G H Q ρ d er e k=>two hg er e k
def fI{op:CmpOp}{r:R2}{g:aW!}(ho:b3!)(hg:d5_)(ha:Q_)(O:cd_)(hm:dE_):DE X own dF! jD!:=
 eE vK_ λZ G H Q ρ d er e k=>two hg er e k
def aL{r:R2}{g:aW!}(hr:Vx X r)(hg:d5_)(ha:Q_)(O:cd_)(hs:Pp b):DE X own m7_ jD!:=
 eE vL! λZ G H Q ρ d er e k=>two hg er e k
nonrec def fT(f:d_):Ad->Option Bool:=λρ=>(ag!).bind λd=>match d with|.bl b=>some b|_=>none
def kE{ρ:Ad}{b:Bool}(h:fT f ρ=some b):f ρ=some bI!:=by unfold fT at h;obtain⟨d,e,h⟩:=GG.mp h;cases d<;>first|(cases h;exact e)|cases h
def bM{op:CmpOp}{r:R2}{g:aW!}(ho:b3!)(hg:d5_)(ha:Q_)(O:cd_)(hm:dE_):DT X own dF! (fT jD!):=
 xC vM_ λZ G H Q ρ d er e k=>two (own:=own) (Q:=vN!) hg er (kE e) λv G' H' s' r'=>by
  cases cX r';exact vN_
def eU(h:dj!)(he:h8!:=by intro _;rfl):DT X own e (fT f):=
 xC (b7m h.ok he) λZ G H Q ρ d er e k=>⟨G,ρ,.bl d,er,kE e,λv G' H' s' r'=>by
  cases cX r';exact vN_⟩
def Vn:D->Option Bool
 |.lst xs=>some (! dM!)
 |.tup xs=>some (! dM!)
 |.bl b=>some b
 |.int i=>some gf!
 |.non=>some false
 |_=>none
def sW{K:zT!}{H:Hp}{ds:b_}{vs:k!}(h:cD!):(!ds.isEmpty)=!vs.isEmpty:=by have:=aI h;cases ds<;>cases vs<;>simp_all
def a7o(h:dj!)(he:h8!:=by intro _;rfl):DT X own e (λρ=>(ag!).bind Vn):=
 xC (b7n h.ok he) λZ G H Q ρ b er e k=>by
  obtain⟨d,e1,e2⟩:=GG.mp e;refine⟨G,ρ,d,er,e1,λv G' H' s' r'=>⟨b,?_,nR_⟩⟩;cases d with
  |non=>cases dW r';cases e2;exact(rfl:false=false)
  |bl x=>cases cX r';cases e2;exact rfl
  |int i=>cases aX r';cases e2;exact(rfl:gf!=gf!)
  |str x=>cases e2
  |fn a=>cases e2
  |dk a=>cases e2
  |tup xs=>
   obtain⟨a,vs,e3,q,r3⟩:=bN r';subst e3;cases e2;exact .inr (.inl ⟨vs,bS s'.sub q,sW r3⟩)
  |lst xs=>
   obtain⟨a,vs,e3,q,r3⟩:=bJ r';subst e3;cases e2;exact .inl ⟨vs,s'.sub.seq q,sW r3⟩
def Cy(ft fu:af_):Ad->Option Bool:=λρ=>(gR_).bind λb=>if b then fu ρ else some false
def Ki(ft fu:af_):Ad->Option Bool:=λρ=>(gR_).bind λb=>if b then some true else fu ρ
def Co(ft:af_):Ad->Option Bool:=λρ=>(gR_).map (!·)
variable{rest:List Expr}
def qB(h:gS_):DW X own lQ! ft:=vP!
def oG(h:gS_):DW X own lQ_ ft:=vP_
def xB(ha:gS_)(O:DW X own ey_ fu):DW X own ez_ (Cy ft fu):=
 c5z vQ! λZ G H Q ρ d er e k=>by
  obtain⟨x,e1,e⟩:=GG.mp e;refine nS!;cases x with
  |true=>exact lQ vQ_
  |false=>cases e;exact lR (k G1 H1 s1)
def xA(ha:gS_)(O:DW X own eA! fu):DW X own eA_ (Ki ft fu):=
 c5z vR! λZ G H Q ρ d er e k=>by
  obtain⟨x,e1,e⟩:=GG.mp e;refine nS!;cases x with
  |false=>exact lR vQ_
  |true=>cases e;exact lQ (k G1 H1 s1)
def tT(h:DW X own e ft):DT X own e ft:=⟨h.ok.pt⟩
def fR(h:gS_):DT X own eB! (Co ft):=
 xC (b7o h.ok) λZ G H Q ρ d er e k=>by
  obtain⟨x,e1,rfl⟩:=GR.mp e;exact⟨G,ρ,x,er,e1,λG1 H1 s1=>k G1 H1 s1⟩
def Cr(fa fb:d_):Ad->Option D:=λρ=>(nT!).bind λb=>if b then fb ρ else some as_
def Ev(fa fb:d_):Ad->Option D:=λρ=>(nT!).bind λb=>if b then some D_ else fb ρ
def Du(fa:d_):Ad->Option D:=λρ=>(nT!).map λb=>.bl (!b)
def gQ{op:BoolOp}(h:Q_):DE X own lS! fa:=vR_
def kI(ha:Q_)(O:DE X own ey_ fb):DE X own ez_ (Cr fa fb):=
 eE vS! λZ G H Q ρ d er e k=>by
  obtain⟨x,e1,e⟩:=GG.mp e;refine nU!;cases cX r1;refine jE!;cases x with
  |true=>exact lQ jE_
  |false=>cases e;exact lR vT_
def zZ(ha:Q_)(O:DE X own eA! fb):DE X own eA_ (Ev fa fb):=
 eE vU! λZ G H Q ρ d er e k=>by
  obtain⟨x,e1,e⟩:=GG.mp e;refine nU!;cases cX r1;refine jE!;cases x with
  |false=>exact lR jE_
  |true=>cases e;exact lQ vT_
def c9b(ha:Q_):DE X own eB! (Du fa):=
 eE (b8c ha.ok) λZ G H Q ρ d er e k=>by
  obtain⟨x,e1,rfl⟩:=GR.mp e;refine nU!;cases cX r1;exact⟨x,rfl,vU_⟩
def Lx(ft:af_)(fa fb:d_):Ad->Option D:=λρ=>(gR_).bind λb=>if b then fa ρ else fb ρ
def d1s(hc:DT X own c ft)(ha:Q_)(O:cd_):DE X own lT_ (Lx ft fa fb):=
 eE vV! λZ G H Q ρ d er e k=>by
  obtain⟨x,e1,e⟩:=GG.mp e;refine nS!;cases x with
  |true=>exact lQ jE_
  |false=>exact lR jE_
nonrec def f3(g h:aW!)(fa fb fc:d_):Ad->Option D:=λρ=>(d5!).bind λx=>(gP_).bind λy=>(g x y).bind λz=>match z with
 |.bl true=>(fc ρ).bind λw=>h y w
 |.bl false=>some as_
 |_=>none
def Ag:Ad->Option aF_:=λ_=>some []
def Ac(f:d_)(fs:am!):Ad->Option aF_:=λρ=>(ag!).bind λd=>(fb!).bind λds=>some d1!
def aK:DA X own [] Ag:=c0z fB λZ G H Q ρ d er e k=>by
 cases e;exact k [] G H gO_ Am.nil
def aD(h:dj!)(hs:jF!)(bz:ak_:=by rfl):DA X own aK! (Ac f fs):=
 c0z vW! λZ G H Q ρ d er e' k=>by
  obtain⟨x,e1,e'⟩:=GG.mp e';obtain⟨xs,e2,e'⟩:=GG.mp e';cases e';exact⟨G,ρ,x,er,e1,λv G1 H1 s1 r1=>⟨G1,ρ,xs,di_,e2,λvs G2 H2 s2 r2=>k _ G2 H2 dj_ (Am.cons gQ! r2)⟩⟩
def Av(fs:am!):Ad->Option D:=λρ=>(fb!).bind λds=>if f_<=1000 then some dh! else none
def Dv(fs:am!):Ad->Option D:=λρ=>(fb!).bind λds=>if f_<=1000 then some cD_ else none
def gF{n:Nat}(h:n<=1000):n<=sizeLine:=LL (b4b h)
def cV{x1:Nat}(h:jF!):DE X own s6! (Av fs):=
 eE (b7z h.ok) λZ G H Q ρ d er e k=>by
  show"!G"
  .show"!?";refine⟨G,ρ,ds,er,e1,λvs G1 H1 s1 r1=>⟨vX!,λp hp=>k _ _ _ vX_ (eK vY! r1)⟩⟩
  .cases e
def rY(h:jF!):DE X own mJ! (Dv fs):=
 eE nZ_ λZ G H Q ρ d er e k=>by
  show"!G"
  .show"!?";refine⟨G,ρ,ds,er,e1,λvs G1 H1 s1 r1=>⟨vX!,λp hp=>k _ _ _ vX_ (dQ vY! r1)⟩⟩
  .cases e
def Mv(K:zT!)(r:ct_)(g:W_):Prop:=∀{vs:k!} {ds:b_} {d:D} {G H:Hp} {Q:VK},Bg G H->Am K G ds vs->g ds=some d->jC_->r vs H Q
nonrec def f1(g:W_)(fs:am!):Ad->Option D:=λρ=>(fb!).bind g
def cC{id:String}{x:Str}{r:ct_}{g:W_}(hc:mQ_)(hd:Mv X.K r g)(hg:R!)(hm:cr!)(hv:mR!)(ha:gV!)(hn:cr_:=by decide)
  (be:F!:=by decide)(he:ak_:=by rfl)(av:aT!:=by rfl):DE X own bg! jH!:=
 eE vZ_ λZ G H Q ρ d er e' k=>by
  show"#-";exact v0!
def b5u{T:String}{x:Str}{r:ct_}{g:W_}(hc:mR_)(hd:Mv X.K r g)(hg:R!)(hm:cr!)(hv:iV_)(ha:gV!)(hn:cr_:=by decide)
  (be:F!:=by decide)(he:ak_:=by rfl)(av:aT!:=by rfl):DE X own bg! jH!:=
 eE v0_ λZ G H Q ρ d er e' k=>by
  show"#-";exact v0!
def Xk(K:zT!)(n:Nat)(g:W_):Sp:=λvs H Q _=>bx_=n/\∃G ds d,Bg G H/\Am K G ds vs/\g ds=some d/\∀v G' H',Ce G H G' H'->Ar K G' d v->Q v H'
def c4w{k:Nat}{ps:j_}{g:W_}{x:Str}(F:Fk X.prog X.w X.K X.mg X.base Pk k σ fd ps v1_)(hr:b5!)(hg:R!)(hm:X.mg x=some bO!)(hk:W.keepIn X.K bO!=true)
  (O:jH_)(ha:gV!)(hn:v3_:=by rfl)(ak:v2_)
  (be:F!:=by decide)(he:ak_:=by rfl)(av:aT!:=by rfl):
  DE X own bg! jH!:=
 eE (b2d F hr hg hm hk O .nil vN ha.ok be he av) λZ G H Q ρ d er e' k=>by
  show"#-";refine⟨G,ρ,ds,er,e1,λvs G1 H1 s1 r1=>?_⟩;show Xk X.K ps.length g (vs++[]) H1 Q E0;rw[HP];exact⟨by rw[<-aI r1];exact ak ρ ds e1,G1,ds,d,s1.sub,r1,e',vT!⟩
end
def bC{ρ:Ad}{ds:b_}(h:Ag ρ=some ds):f_=0:=by cases h;rfl
def aM{f:d_}{fs:am!}{n:Nat}(hf:v4!):∀(ρ:Ad) (ds:b_),Ac f fs ρ=some ds->f_=n+1:=λρ ds e=>by
 show"!;";obtain⟨xs,e2,e⟩:=GG.mp e;cases e;rw[GS,hf ρ xs e2]
def nO{h:Heap}{its:aa!}(p:PlainL h a its):∃n sl,h.get? a=some {cls:=.type "list",dict:=none,data:=.seq its n,slots:=sl}:=by obtain⟨⟨cls,dd,data,sl⟩,n,e,B,Y,h3⟩:=p;simp only at B Y h3;subst B Y h3;exact⟨n,sl,e⟩
section
variable{X:Cx}
def Yq(K:zT!):R2:=λx y H Q=>∃l b xs zs,x=.ref l/\y=.ref b/\Et K H l xs/\Et K H b zs/\i_+zs.length<=sizeLine/\∀p,H p=none->Q c5! (upd H p uJ!)
def b2j:Gq X eF_ (Yq X.K):=by
 intro J s Z H x y v u Q I rx ry h;obtain⟨l,b,xs,zs,rfl,rfl,hH,hB,hz,q⟩:=h;cases rx;cases ry;obtain⟨its,r,pl,z⟩:=I.list hH;obtain⟨gi,r2,XN,z2⟩:=I.list hB;obtain⟨n,sl,e⟩:=nO pl;obtain⟨n2,jd,e2⟩:=nO XN;have B:=aB!;have Y:=r2.length;refine concat_meets da! ⟨_,e2,rfl⟩ PySem.noFill_list_add PySem.seq_list_add PySem.F.slot_list_add PySem.F.entry_list_add (PySem.F.args_list_add_2 _ _)
  (list_addW l b its.toArray gi.toArray n n2 none none sl jd n1_) ⟨e,e2,?_⟩
 have ea:aQ!++gi.toArray=(its++gi).toArray:=by simp
 rw[ea];exact⟨.ref _,_,I.lnew (t':=s.toks) (r.append r2) v5!,rfl,q _ I.fresh⟩
def Wj(K:zT!):R2:=λx y H Q=>∃a b ys,x=.ref a/\y=.ref b/\Fz K H a []/\Fz K H b ys/\Q dS! H
def b8k:Gq X eF_ (Wj X.K):=by
 intro J s Z H x y v u Q I rx ry h;obtain⟨a,b,ys,rfl,rfl,ha,O,q⟩:=h;cases rx;cases ry;obtain⟨its,r1,p1,_⟩:=I.tuple ha;obtain⟨gi,r2,p2,_⟩:=I.tuple O;obtain⟨⟨cls,dd,data,sl⟩,ho,hc,n,hd⟩:=id p1;obtain⟨⟨SH,lf,data2,jd⟩,je,jf,n2,jg⟩:=id p2;simp only at hc hd jf jg;subst hc hd jf jg;have e0:its=[]:=r1.nil_iff.mpr rfl;exact concat_meets iX_ iY! noFill_tuple_add seq_tuple_add ON OG (OD _ _)
  (tuple_addW0 a b its.toArray gi.toArray n n2 dd lf sl jd (by simp[e0])) ⟨ho,je,⟨.ref b,H,I,rfl,q⟩⟩
abbrev big:Nat:=100000
def cP{n:Nat}(h:n<=big):n<=sizeLine:=HR h v5_
def Al:D->D->Option D
 |.int i,.int j=>some (.int (i+j))
 |.str x,.str y=>if eK_+cu!<=big then some (.str (x++y))else none
 |.tup xs,.tup ys=>if i_+M_<=big then some (.tup fN!)else none
 |.lst xs,.lst ys=>if i_+M_<=big then some n3_ else none
 |_,_=>none
def Sb(K:zT!):R2:=λx y H Q=>Sa (λi j=>.int (i+j)) x y H Q\/((∃i j,x=.str i/\y=.str j/\i.length+j.length<=sizeLine/\Q (.str (i++j)) H)\/(Yp K x y H Q\/(Wj K x y H Q\/Yq K x y H Q)))
def aN:Gq X eF_ (Sb X.K):=c7h.or (a9k.or (c3e.or (b8k.or b2j)))
def bI{K:zT!}:Ic K (Sb K) Al:=by
 show"!0";unfold Al at e;show"!6"
 .show"!`";exact .inl ⟨_,_,rfl,rfl,d8_⟩
 .cases bT rx;cases bT ry;show"!6"
  .show"!?";exact .inr (.inl ⟨_,_,rfl,rfl,cP hl,gV_⟩)
  .cases e
 .show"!V";obtain⟨b,ws,rfl,qb,rb⟩:=bN ry;show"!6"
  .show"!?";have l1:=aI ra;have l2:=aI rb;by_cases hv:vs=[]
   .subst hv;refine .inr (.inr (.inr (.inl ⟨a,b,ws,rfl,rfl,jI!,n4!,k _ G H aO_ ?_⟩)));have:(_:b_)=[]:=MM.mp l1;rw[this,JF];exact Ar.tup qb rb
   .refine .inr (.inr (.inl ⟨a,b,vs,ws,rfl,rfl,jI!,n4!,hv,by rw[<-l1,<-l2];exact cP hl,λhw=>?_,λhw p hp=>?_⟩))
    .subst hw;have:(_:b_)=[]:=MM.mp l2;refine k _ G H aO_ ?_;rw[this,HP];exact Ar.tup qa ra
    .exact k _ _ _ jI_ (eK gW! (cS ra rb))
  .cases e
 .show"!~";obtain⟨b,ws,rfl,qb,rb⟩:=bJ ry;show"!6"
  .show"!?";exact .inr (.inr (.inr (.inr ⟨a,b,vs,ws,rfl,rfl,sub.seq qa,sub.seq qb,by rw[<-aI ra,<-aI rb];exact cP hl,λp hp=>k _ _ _ jI_ (dQ gW! (cS ra rb))⟩)))
  .cases e
 .cases e
def Ds(c:mi!)(g:jJ!):D->D->Option D
 |.int i,.int j=>if c i j=true then some bw! else none
 |_,_=>none
def a1t{K:zT!}{C:mf_}{c:mi!}{g:jJ!}{gv:iu_}(hc:∀i j,c i j=true->C i j)(hg:v6_):Ic K (rI C gv) (Ds c g):=by
 show"!0";unfold Ds at e;show"!6"
 .cases aX rx;cases aX ry;show"!6"
  .rename_i h;cases e;exact⟨_,_,rfl,rfl,hc _ _ h,v7!⟩
  .cases e
 .cases e
def Cb(g:jJ!):D->D->Option D
 |.int i,.int j=>some bw!
 |_,_=>none
def uB{K:zT!}{g:jJ!}{gv:iu_}(hg:v6_):Ic K (Sa gv) (Cb g):=by
 show"!0";unfold Cb at e;show"!6"
 .show"!`";exact⟨_,_,rfl,rfl,v7!⟩
 .cases e
def Dl:D->D->Option D:=Cb λi j=>.int (i - j)
def nV{K:zT!}:Ic K r9_ Dl:=uB λ_ _ _=>Ar.int
def Tp(i j:Int):Bool:=(decide (-ix!<i)&&decide (i<2 ^ 64))||(decide (-ix!<j)&&decide (j<2 ^ 64))
def c7n{K:zT!}:Ic K mj_ (Ds Tp λi j=>.int (i*j)):=a1t (λi j h=>by
 unfold Tp at h;simp only[Bool.or_eq_true,HK,HQ]at h;exact h) λ_ _ _=>Ar.int
def c7o{K:zT!}:Ic K mk_ (Ds n6! λi j=>.int (i%j)):=a1t (λi j h=>by simpa using h) λ_ _ _=>Ar.int
def c3j{K:zT!}:Ic K mk! (Ds v7_ λi j=>.int (i / j)):=a1t (λi j h=>by
 simp only[HK,HQ]at h;exact h) λ_ _ _=>Ar.int
def c7m{K:zT!}:Ic K ml_ (Ds v8! λi j=>.int ml!):=a1t (λi j h=>by
 simp only[HK,HQ]at h;exact⟨h.1.1,h.1.2,h.2⟩) λ_ _ _=>Ar.int
def d0x{K:zT!}:Ic K mn_ (Cb λi j=>.bl mp!):=uB λ_ _ _=>Ar.bl
def d0z{K:zT!}:Ic K mq_ (Cb λi j=>.bl mq!):=uB λ_ _ _=>Ar.bl
def d1a{K:zT!}:Ic K mr_ (Cb λi j=>.bl mr!):=uB λ_ _ _=>Ar.bl
def Rj(x y:Str):Bool:=!decide (y.cps.toList<x.cps.toList)
def b4r:Gq X mo! (λx y H Q=>∃i j,x=.str i/\y=.str j/\Q v8_ H):=by intro J s Z H x y v u Q I rx ry h;obtain⟨i,j,rfl,rfl,q⟩:=h;obtain⟨t,rfl⟩:=rx;obtain⟨t',rfl⟩:=ry;exact PySem.P.le_str (eH I q rfl)
def Ci:D->Bool
 |.non=>true
 |_=>false
def Br:D->D->Option D
 |x,.non=>some (.bl (Ci x))
 |_,_=>none
def yW{K:zT!}{H:Hp}(r:Ar K H d x):decide (x=V.non)=Ci d:=by
 cases d with
 |non=>cases dW r;rfl
 |bl b=>cases cX r;rfl
 |int b=>cases aX r;rfl
 |str b=>cases bT r;rfl
 |tup b=>obtain⟨a,vs,rfl,_⟩:=bN r;rfl
 |lst b=>obtain⟨a,vs,rfl,_⟩:=bJ r;rfl
 |fn b=>cases fA r;rfl
 |dk b=>obtain⟨a,rfl,_⟩:=c6n r;rfl
def a9t{K:zT!}:Ic K sg_ Br:=by
 show"!0";unfold Br at e;show"!6"
 .show"#="
 .cases e
def Ap:D->D->Option D
 |x,.non=>some (.bl (!Ci x))
 |_,_=>none
def mL{K:zT!}:Ic K sh_ Ap:=by
 show"!0";unfold Ap at e;show"!6"
 .show"#="
 .cases e
def Ai:D->D->Option D
 |.tup xs,.int i=>Db xs i
 |.lst xs,.int i=>Db xs i
 |.str x,.int i=>if eK_<=big then(Db x.cps.toList i).map λc=>.str al! else none
 |_,_=>none
def oT{K:zT!}{H:Hp}{i:Int}(r:cD!)(h:Db ds i=some d):∃v,Db vs i=some v/\Ar K H d v:=by unfold Db at h ⊢;obtain⟨j,B,Y⟩:=GG.mp h;obtain⟨v,h3,h4⟩:=eW r Y;exact⟨v,GG.mpr ⟨j,by rw[<-aI r];exact B,h3⟩,h4⟩
def aJ{K:zT!}:Ic K (EB K) Ai:=by
 show"!0";unfold Ai at e;show"!6"
 .show"!V";cases aX ry;obtain⟨v,B,Y⟩:=oT ra e;exact .inr (.inl ⟨a,vs,_,v,rfl,rfl,jI!,B,k v G H aO_ Y⟩)
 .show"!~";cases aX ry;obtain⟨v,B,Y⟩:=oT ra e;exact .inl ⟨a,vs,_,v,rfl,rfl,sub.seq qa,B,k v G H aO_ Y⟩
 .cases bT rx;cases aX ry;show"!6"
  .rename_i hl;obtain⟨c,B,rfl⟩:=GR.mp e;exact .inr (.inr ⟨_,_,c,rfl,rfl,cP hl,B,gV_⟩)
  .cases e
 .cases e
def Da{α:Type}(xs:J!)(lo hi:a5!):List α:=(xs.drop m1!).take m1_
def vI{K:zT!}{H:Hp}(r:cD!)(lo hi:a5!):Am K H (Da ds lo hi) (Tv vs lo hi):=by unfold Da Tv;rw[aI r];exact mE _ (qV _ r)
end
section
variable{X:Cx}{own:List Nat}{e a b c:Expr}{es:List Expr}{pos p2:Pos}{f fa fb fc:Ad->Option D}{fs:Ad->Option (List D)}{ft fu:Ad->Option Bool}{ol oh:Ad->Option (Option Int)}
inductive Za(K:zT!)(own:j!)(o:jJ_)(Z:St)(H:Hp)(Q:tW!):Prop
 |mk (G:Hp) (ρ:Ad) (i:a5!) (r:cb!) (e:o ρ=some i) (k:∀G' H',Ce G H G' H'->Q i H'):Za K own o Z H Q
def Au:Ad->Option n7!:=λ_=>some none
def At(f:d_):Ad->Option n7!:=λρ=>(ag!).bind λd=>match d with|.int i=>some (some i)|_=>none
def dY:PO X none (Za X.K own Au):=λJ s Z H Q I ⟨G,ρ,i,er,e,k⟩=>by
 cases e;exact c2s J s Z H Q I (k G H gO_)
def dX(h:dj!):PO X ic_ (Za X.K own (At f)):=λJ s Z H Q I ⟨G,ρ,i,er,e',k⟩=>by
 obtain⟨d,e1,e2⟩:=GG.mp e';refine c2r h.ok J s Z H Q I ⟨G,ρ,d,er,e1,λv G' H' s' r'=>?_⟩;cases d<;>first
  |cases e2
  |skip
 cases aX r';exact⟨_,rfl,nR_⟩
def Bi:D->Option Int->Option Int->Option D
 |.tup xs,lo,hi=>if HT.sIx xs.length 0 lo=0/\HT.sIx xs.length xs.length hi=i_ then none else some (.tup (Da xs lo hi))
 |.lst xs,lo,hi=>some (.lst (Da xs lo hi))
 |_,_,_=>none
def Ep(f:d_)(ol oh:jJ_):Ad->Option D:=λρ=>(ag!).bind λd=>(ol ρ).bind λl=>(oh ρ).bind λh=>Bi d l h
def dS{lo hi:mY!}(ha:Q_)(hl:v9_)(hh:wa!):DE X own wa_ (Ep fa ol oh):=
 eE wb_ λZ G H Q ρ d er e k=>by
  show"!;";obtain⟨l,e2,e⟩:=GG.mp e;obtain⟨h,e3,e⟩:=GG.mp e;refine⟨G,ρ,x,er,e1,λv G1 H1 s1 r1=>⟨G1,ρ,l,di_,e2,λG2 H2 s2=>⟨G2,ρ,h,er.grow dj_,e3,wc!⟩⟩⟩;have r3:Ar X.K G3 x v:=(gQ!).mono s3.g;have s4:Ce G H G3 H3:=s1.trans gQ_;have sub:=s4.sub;unfold Bi at e;show"!6"
  .show"!6"
   .cases e
   .rename_i hw;cases e;obtain⟨p,vs,rfl,q,rr⟩:=bN r3;refine .inl ⟨p,vs,rfl,bS sub q,?_,λp hp=>k _ _ _ wc_ (eK gW! n7_)⟩;rw[<-aI rr];exact hw
  .cases e;obtain⟨p,vs,rfl,q,rr⟩:=bJ r3;exact .inr ⟨p,vs,rfl,jK_,λp hp=>k _ _ _ wc_ (dQ gW! n7_)⟩
  .cases e
def EU:D->Value
 |.non=>.type "NoneType"
 |.bl _=>.type "bool"
 |.int _=>.type "int"
 |.str _=>.type "str"
 |.tup _=>.type "tuple"
 |.lst _=>.type "list"
 |.fn _=>.none
 |.dk _=>.none
def AZ(K:zT!)(T:String):List V->Hp->VK->Prop:=λxs H Q=>∃x d b,xs=[x,.ty T]/\Ar K H d x/\W.kitOne K (EU d) eT_=some b/\(∀a,d≠.fn a)/\(∀a,d≠.dk a)/\Q bI! H
def c1i{T:String}:Iq X n8_ (AZ X.K T):=by
 intro J s Z H xs us Q I r h;obtain⟨x,d,b,rfl,rx,e,hf,yc,q⟩:=h;obtain⟨u,w',rfl,r1,r2⟩:=b1c r;cases r2;have fin:∀tk,EP X J Z Q nA_ {s with toks:=tk}:=λtk=>⟨.bl b,H,I.tok tk,rfl,q⟩;cases d with
 |non=>cases dW rx;cases r1;exact QT W.kitx_none I.kIn True.intro e fb_ fin
 |bl y=>cases cX rx;cases r1;exact QT W.kitx_bool I.kIn True.intro e fb_ fin
 |int y=>cases aX rx;obtain⟨t,rfl⟩:=r1;exact QT W.kitx_int I.kIn True.intro e fb_ fin
 |str y=>cases bT rx;obtain⟨t,rfl⟩:=r1;exact QT W.kitx_str I.kIn True.intro e fb_ fin
 |tup ys=>
  show"!V";cases r1;obtain⟨its,_,⟨o,B,Y,_⟩,_⟩:=I.tuple qa;exact QT W.kitx_tuple I.kIn n9! e fb_ fin
 |lst ys=>
  show"!~";cases r1;obtain⟨its,_,pl,_⟩:=I.list qa;obtain⟨o,n,B,Y,_⟩:=pl;exact QT W.kitx_list I.kIn n9! e fb_ fin
 |fn a=>exact absurd rfl (hf a)
 |dk a=>exact absurd rfl (yc a)
def Fq(T:String):D->Option Bool
 |.non=>some (T=="NoneType")
 |.bl _=>some (T=="bool"||T=="int")
 |.int _=>some (T=="int")
 |.str _=>some (T=="str")
 |.tup _=>some (T=="tuple")
 |.lst _=>some (T=="list")
 |.fn _=>none
 |.dk _=>none
structure Vy(K:zT!)(T:String):Prop where
 ok:∀d b,Fq T d=some b->W.kitOne K (EU d) eT_=some b
def a2l:W.kitOne [] gW_ bA_=some ("int"=="NoneType"):=by decide+kernel
def a6o:W.kitOne [] bB! bA_=some ("int"=="bool"||"int"=="int"):=by decide+kernel
def a2r:W.kitOne [] bA_ bA_=some ("int"=="int"):=by decide+kernel
def a2j:W.kitOne [] a2_ bA_=some ("int"=="str"):=by decide+kernel
def a2h:W.kitOne [] bB_ bA_=some ("int"=="tuple"):=by decide+kernel
def a2p:W.kitOne [] bh_ bA_=some ("int"=="list"):=by decide+kernel
def c4a{K:zT!}:Vy K "int":=⟨λd b h=>match d,b,h with
 |.non,b,h=>by cases h;exact a2l
 |.bl _,b,h=>by cases h;exact a6o
 |.int _,b,h=>by cases h;exact a2r
 |.str _,b,h=>by cases h;exact a2j
 |.tup _,b,h=>by cases h;exact a2h
 |.lst _,b,h=>by cases h;exact a2p
 |.fn _,b,h=>by cases h
 |.dk _,b,h=>by cases h⟩
def yE:W.kitOne [] gW_ bB!=some ("bool"=="NoneType"):=by decide+kernel
def a2t:W.kitOne [] bB! bB!=some ("bool"=="bool"||"bool"=="int"):=by decide+kernel
def yI:W.kitOne [] bA_ bB!=some ("bool"=="int"):=by decide+kernel
def yC:W.kitOne [] a2_ bB!=some ("bool"=="str"):=by decide+kernel
def yA:W.kitOne [] bB_ bB!=some ("bool"=="tuple"):=by decide+kernel
def yG:W.kitOne [] bh_ bB!=some ("bool"=="list"):=by decide+kernel
def b9z{K:zT!}:Vy K "bool":=⟨λd b h=>match d,b,h with
 |.non,b,h=>by cases h;exact yE
 |.bl _,b,h=>by cases h;exact a2t
 |.int _,b,h=>by cases h;exact yI
 |.str _,b,h=>by cases h;exact yC
 |.tup _,b,h=>by cases h;exact yA
 |.lst _,b,h=>by cases h;exact yG
 |.fn _,b,h=>by cases h
 |.dk _,b,h=>by cases h⟩
def a2k:W.kitOne [] gW_ a2_=some ("str"=="NoneType"):=by decide+kernel
def a6n:W.kitOne [] bB! a2_=some ("str"=="bool"||"str"=="int"):=by decide+kernel
def a2q:W.kitOne [] bA_ a2_=some ("str"=="int"):=by decide+kernel
def a2i:W.kitOne [] a2_ a2_=some ("str"=="str"):=by decide+kernel
def a2g:W.kitOne [] bB_ a2_=some ("str"=="tuple"):=by decide+kernel
def a2m:W.kitOne [] bh_ a2_=some ("str"=="list"):=by decide+kernel
def uH{K:zT!}:Vy K "str":=⟨λd b h=>match d,b,h with
 |.non,b,h=>by cases h;exact a2k
 |.bl _,b,h=>by cases h;exact a6n
 |.int _,b,h=>by cases h;exact a2q
 |.str _,b,h=>by cases h;exact a2i
 |.tup _,b,h=>by cases h;exact a2g
 |.lst _,b,h=>by cases h;exact a2m
 |.fn _,b,h=>by cases h
 |.dk _,b,h=>by cases h⟩
def wH:W.kitOne [] gW_ bB_=some ("tuple"=="NoneType"):=by decide+kernel
def yJ:W.kitOne [] bB! bB_=some ("tuple"=="bool"||"tuple"=="int"):=by decide+kernel
def wJ:W.kitOne [] bA_ bB_=some ("tuple"=="int"):=by decide+kernel
def wG:W.kitOne [] a2_ bB_=some ("tuple"=="str"):=by decide+kernel
def wF:W.kitOne [] bB_ bB_=some ("tuple"=="tuple"):=by decide+kernel
def wI:W.kitOne [] bh_ bB_=some ("tuple"=="list"):=by decide+kernel
def mP{K:zT!}:Vy K "tuple":=⟨λd b h=>match d,b,h with
 |.non,b,h=>by cases h;exact wH
 |.bl _,b,h=>by cases h;exact yJ
 |.int _,b,h=>by cases h;exact wJ
 |.str _,b,h=>by cases h;exact wG
 |.tup _,b,h=>by cases h;exact wF
 |.lst _,b,h=>by cases h;exact wI
 |.fn _,b,h=>by cases h
 |.dk _,b,h=>by cases h⟩
def yD:W.kitOne [] gW_ bh_=some ("list"=="NoneType"):=by decide+kernel
def a2s:W.kitOne [] bB! bh_=some ("list"=="bool"||"list"=="int"):=by decide+kernel
def yH:W.kitOne [] bA_ bh_=some ("list"=="int"):=by decide+kernel
def yB:W.kitOne [] a2_ bh_=some ("list"=="str"):=by decide+kernel
def xZ:W.kitOne [] bB_ bh_=some ("list"=="tuple"):=by decide+kernel
def yF:W.kitOne [] bh_ bh_=some ("list"=="list"):=by decide+kernel
def b9y{K:zT!}:Vy K "list":=⟨λd b h=>match d,b,h with
 |.non,b,h=>by cases h;exact yD
 |.bl _,b,h=>by cases h;exact a2s
 |.int _,b,h=>by cases h;exact yH
 |.str _,b,h=>by cases h;exact yB
 |.tup _,b,h=>by cases h;exact xZ
 |.lst _,b,h=>by cases h;exact yF
 |.fn _,b,h=>by cases h
 |.dk _,b,h=>by cases h⟩
def Dj(T:String)(f:d_):Ad->Option D:=λρ=>(ag!).bind λd=>(Fq T d).map D.bl
def iK{T:String}{x:Str}(ht:Vy X.K T)(hg:Gl X "isinstance")(hm:X.mg "isinstance"=none)(XO:R!)(yd:cr!)(hv:bootBuiltins "isinstance"=some n8_)(XQ:iV_)(ha:Q_)
  (ie:cr_:=by decide)(jg:F!:=by decide)
  (he:starEach [a,cF!] X.env=dK_::starEach [cF!] X.env:=by rfl)(pv:starEach [cF!] X.env=(false,eval dk! X.env)::starEach [] X.env:=by rfl)
  (av:(backTo pos (starEach [cF!] X.env)).any b!=false:=by rfl):DE X own (.Call (.Name "isinstance" p) [a,cF!] [] pos) (Dj T fa):=
 eE (vM (r:=AZ X.K T) c1i hg hm hv (dC ha.ok (dC (c2z (v:=V.ty T) XO yd XQ rfl ie jg) fB pv) he) c! c! he av) λZ G H Q ρ d er e k=>by
  show"!;";obtain⟨b,e2,rfl⟩:=GR.mp e;exact⟨G,ρ,x,er,e1,λv G1 H1 s1 r1=>⟨v,x,b,rfl,r1.mono s1.sub,ht.ok x b e2,we!,we!,vU_⟩⟩
def eL{K:zT!}{H:Hp}(h:Am K H [d] vs):∃v,vs=[v]/\Ar K H d v:=by obtain⟨v,r,rfl,B,Y⟩:=bQ h;cases cU Y;exact⟨v,rfl,B⟩
def Bm:List D->Option D
 |[.tup xs]=>some (.int i_)
 |[.lst xs]=>some (.int i_)
 |[.str x]=>if eK_<=big then some (.int eK_)else none
 |_=>none
def eO{K:zT!}:Mv K we_ Bm:=by
 show"!K";unfold Bm at e;show"!6"
 .show"!7";obtain⟨a,ws,rfl,q,rr⟩:=bN rv;cases e;exact⟨_,_,rfl,.inr ⟨ws,bS sub q,aI rr⟩,d8_⟩
 .show"!7";obtain⟨a,ws,rfl,q,rr⟩:=bJ rv;cases e;exact⟨_,_,rfl,.inl ⟨ws,jK_,aI rr⟩,d8_⟩
 .show"!7";cases bT rv;show"!6"
  .show"!?";exact⟨_,_,rfl,⟨cP hl,rfl⟩,d8_⟩
  .cases e
 .cases e
def Fy:List D->Option D
 |[.int i]=>some (.int iD!)
 |_=>none
def c9j{K:zT!}:Mv K ss! Fy:=by
 show"!K";unfold Fy at e;show"!6"
 .show"!7";cases aX rv;cases e;exact⟨_,rfl,d8_⟩
 .cases e
def Xw:List D->Option D
 |[.str x]=>if eK_=1 then some su! else none
 |_=>none
def c9i{K:zT!}:Mv K st_ Xw:=by
 show"!K";unfold Xw at e;show"!6"
 .show"!7";cases bT rv;show"!6"
  .show"!?";exact⟨_,rfl,hl,d8_⟩
  .cases e
 .cases e
def uQ:∀{bs:jL_} {us:h_},Ba (bs.map V.bl) us->us=bs.map Value.bool
 |[],_,.nil=>rfl
 |b::bs,_,.cons r t=>by cases r;rw[uQ t];rfl
def BB(K:zT!):List V->Hp->VK->Prop:=λxs H Q=>∃(p:xh!) (bs:jL_),xs=gx_/\Et K H p (bs.map V.bl)/\Q (.bl oa_) H
def b5v:∀(bs:jL_),((List.range bs.length).all λi=>(bs[i]?).getD true)=bs.all id:=λbs=>by
 rw[KI,JR,JR];show"!O"
 .intro h x L;obtain⟨i,hi,rfl⟩:=PH.mp L;have:=h i (MZ.mpr hi);simpa[hi]using this
 .intro h i hi;have dw:=MZ.mp hi;simpa[dw]using h bs[i] (IV dw)
def qF(hc:bu!):Iq X wf! (BB X.K):=by
 intro J s Z H xs us Q I r h;obtain⟨p,bs,rfl,hq,q⟩:=h;obtain⟨u,rfl,r1⟩:=kS r;cases r1;obtain⟨its,rv,pl,hz⟩:=I.list hq;have e:=uQ rv;subst e;have hl:=pl.isList;have am:p<o_:=by obtain⟨_,e,_⟩:=hl;exact HI e
 refine call_all_walk (wpAny_pyIter_list hl ?_);refine⟨o_,[o_,p],[o_],(jM_).toArray.size,_,_,λi=>(bs[i]?).getD true,rfl,Walks.list (A:=X.A.in1) bu_ _ p (IA am) (jM_).toArray,
  ⟨dK!,hl.push _⟩,λi v s' Q' E' hP hQ=>?_,λh' tk hk=>?_⟩
 .have TB:jM_[i]?=some v:=by simpa using hP
  rw[HY]at TB;obtain⟨b,O,rfl⟩:=GR.mp TB;simp only[O,Option.getD_some]at hQ;exact IH hQ
 .have e:((List.range (jM_).toArray.size).all λi=>(bs[i]?).getD true)=bs.all id:=by
   rw[GQ,GX];exact b5v bs
  rw[e];exact⟨.bl _,H,I.kept (t':=tk) λb x ex=>hk b x (λhm=>by rw[GY.mp hm]at ex;exact KO _ (HI ex)) (GK _ ex),rfl,q⟩
def Lp:List D->Option (List Bool)
 |[]=>some []
 |.bl b::r=>(Lp r).map (b::·)
 |_=>none
def Md:List D->Option D
 |[.lst xs]=>(Lp xs).map λbs=>.bl oa_
 |_=>none
def yX{K:zT!}{H:Hp}:∀{ds:b_} {vs:k!} {bs:jL_},Am K H ds vs->Lp ds=some bs->vs=bs.map V.bl
 |[],vs,bs,r,e=>by cases cU r;cases e;rfl
 |d::ds,vs,bs,r,e=>by
  obtain⟨v,t,rfl,r1,r2⟩:=bQ r;cases d<;>first|cases e|skip
  obtain⟨bs',e1,rfl⟩:=GR.mp e;cases cX r1;rw[yX r2 e1];rfl
def a4d{K:zT!}:Mv K (BB K) Md:=by
 show"!K";unfold Md at e;show"!6"
 .show"!7";obtain⟨a,ws,rfl,q,rr⟩:=bJ rv;obtain⟨bs,e1,rfl⟩:=GR.mp e;have:=yX rr e1;subst this;exact⟨a,bs,rfl,jK_,d9_⟩
 .cases e
end
def Yf(K:zT!)(ac:It)(ds:b_)(G1:Hp):Prop:=∀(i:Nat) (G' H':Hp),Bg G1 G'->Bg G' H'->
 wg_/\wh!
inductive EX(K:zT!)(own:j!)(fi:am!)(Z:St)(H:Hp)(R:f5_):Prop
 |mk (G:Hp) (ρ:Ad) (ds:b_) (o:cb!) (e:fi ρ=some ds) (k:∀ac G1 H1,Ce G H G1 H1->Yf K ac ds G1->R ac H1):EX K own fi Z H R
structure DI(X:Cx)(own:j!)(tg iter:Expr)(fi:am!):Prop where
 ok:PI X tg iter (EX X.K own fi)
section
variable{X:Cx}{own:List Nat}{e a b c tg:Expr}{es:List Expr}{pos p2:Pos}{f fa fb fc:Ad->Option D}{fs fi:Ad->Option (List D)}{ft fu:Ad->Option Bool}
def a7q{wi:TI}(h:PI X tg e wi)(hw:∀Z G H R ρ ds,OR X.K own G H Z ρ->fi ρ=some ds->(∀ac G1 H1,Ce G H G1 H1->Yf X.K ac ds G1->R ac H1)->wi Z H R):DI X own tg e fi:=⟨λJ s Z H R I ⟨G,ρ,ds,er,e,k⟩=>h J s Z H R I (hw Z G H R ρ ds er e k)⟩
def Eu(f:d_):Ad->Option aF_:=λρ=>(ag!).bind λd=>match d with|.lst xs=>some xs|_=>none
def EG(f:d_):Ad->Option aF_:=λρ=>(ag!).bind λd=>match d with|.tup xs=>some xs|_=>none
def a7a{K:zT!}{G1:Hp}{ad:xh!}(q:Et K G1 ad vs)(r:Am K G1 ds vs):Yf K (EO K ad) ds G1:=by intro i G' H' s1 s2;have q':Et K H' ad vs:=s2.seq (s1.seq q);refine⟨cG!,λhi=>⟨vs,q',by rw[<-aI r,hi];exact HD _⟩⟩;obtain⟨v,B,Y⟩:=eW r hd;refine⟨⟨vs,v,q',B⟩,ea!⟩;obtain⟨e1,e2⟩:=hy;subst e1;have:=e2 vs q';rw[B]at this;cases this;exact⟨G',jN!,Y.mono s1⟩
def fS(h:Q_):DI X own tg a (Eu fa):=a7q (b1y h.ok) λZ G H R ρ ds er e k=>by
 obtain⟨d,e1,e2⟩:=GG.mp e;cases d<;>first|cases e2|skip
 refine fe!;obtain⟨p,vs,rfl,q,rr⟩:=bJ r1;exact⟨p,rfl,⟨vs,s1.sub.seq q⟩,k _ G1 H1 s1 (a7a q rr)⟩
def Dr(n:Nat):List D:=(od!).map λi=>.int (i:Nat)
def Fi(f:d_):Ad->Option aF_:=λρ=>(ag!).bind λd=>match d with|.int j=>if -1000<=j/\j<=100000 then some (Dr j.toNat)else none|_=>none
def b5i{K:zT!}{G1:Hp}{n:Nat}:Yf K (BS 0 n) (Dr n) G1:=by intro i G' H' s1 s2;unfold Dr;refine wh_;rw[HY]at hd;obtain⟨j,hj,rfl⟩:=GR.mp hd;obtain⟨hl,he⟩:=HC.mp hj;rw[NU]at he;subst he;rw[KZ]at hl;refine⟨hl,ea!⟩;obtain⟨e1,e2⟩:=hy;subst e1 e2;refine⟨G',jN!,?_⟩;rw[Int.zero_add];exact Ar.int
def gJ{pos:Pos}(hg:iq_)(hm:iq!)(h:Q_)(hs:rT_:=by rfl)(b6:jN_:=by rfl):
  DI X own tg rU! (Fi fa):=a7q (b4o hg hm (dC h.ok fB b6) hs) λZ G H R ρ ds er e k=>by
 obtain⟨d,e1,e2⟩:=GG.mp e;cases d<;>first|cases e2|skip
 rename_i j;have e3:(if -1000<=j/\j<=100000 then some (Dr j.toNat)else none)=some ds:=e2;split at e3
 .rename_i hj;cases e3;refine fe!;cases aX r1;exact⟨j,rfl,r!,r!,k _ G1 H1 s1 b5i⟩
 .cases e3
def Fb(bnd:ad_)(ft:af_)(fe:d_)(ρ:Ad):List D->Option aF_
 |[]=>some []
 |d::ds=>(jO!).bind λai=>(ft ai).bind λb=>if b then(fe ai).bind λy=>(Fb bnd ft fe ρ ds).map (y::·)else Fb bnd ft fe ρ ds
def GD(K:zT!)(g:TG)(bnd:ad_):Prop:=∀{x:V} {d:D} {Z:St} {G H:Hp} {ρ ai:Ad} {Q:id!},OR K [] G H Z ρ->Ar K G d x->bnd d ρ=some ai->(∀dq,OR K [] G H dq ai->Le ρ ai->Q dq H)->g x Z H Q
def Bn(i:Nat):D->Ad->Option Ad:=λd ρ=>match ρ[i]? with|some none=>some bN_|_=>none
def dH{K:zT!}(i:Nat):GD K eB_ (Bn i):=by
 intro x d Z G H ρ ai Q er r e k;unfold Bn at e;show"!6"
 .rename_i h;cases e;exact k _ (er.set c_ r) ((Le.refl ρ).set h)
 .cases e
def Kj(i j:Nat):D->Ad->Option Ad:=λd ρ=>match d with
 |.tup [x,y]=>(Bn i x ρ).bind λai=>Bn j y ai
 |_=>none
def Le.trans{ρ ai bg:Ad}(a:Le ρ ai)(b:Le ai bg):Le ρ bg:=⟨a.1.trans b.1,λi d h=>b.2 i d (a.2 i d h)⟩
def a3p{K:zT!}(i j:Nat):GD K wj! (Kj i j):=by
 intro x d Z G H ρ ai Q er r e k;unfold Kj at e;show"!6"
 .obtain⟨bg,e1,e2⟩:=GG.mp e;show"!Y";show"!4";refine⟨p,[v1,v2],rfl,bS er.sub q,rfl,v1,[v2],rfl,?_⟩;refine dH i er r1 e1 λdq mz l1=>⟨v2,[],rfl,?_⟩;exact dH j mz r2 e2 λc7 cb l2=>⟨rfl,k c7 cb (l1.trans l2)⟩
 .cases e
def Ey(nl:Nat)(ix:j!)(fi:am!)(bnd:ad_)(ft:af_)(fe:d_):Ad->Option D:=λρ=>(fi ρ).bind λds=>if f_<=big then(Fb bnd ft fe nN_ ds).map D.lst else none
def c9h{K:zT!}{ac:It}{ds:b_}{G1 H1:Hp}{g:TG}{bnd:ad_}{ft:af_}{fe:d_}{j5:Ad}{rj:St}{Fin:cU!}
  (O:f_<=big)(fh:Yf K ac ds G1)(hg:GD K g bnd)(er:OR K [] G1 H1 rj j5)(e:Fb bnd ft fe j5 ds=some ji)(k:∀ys G' H',Ce G1 H1 G' H'->Am K G' ji ys->Fin ys H'):
  Vl ac g (Yz K [] ft) (tD K [] fe) Fin rj H1:=by
 refine⟨λi m ys hx H'=>i<=f_/\m=f_ - i/\∃G' ws r,Ce G1 H1 G' H'/\OR K [] G' H' hx j5/\Am K G' ws ys/\mS_<=i/\Fb bnd ft fe j5 (ds.drop i)=some r/\ws++r=ji,
  ⟨f_,IP _,rfl,G1,[],ji,Ce.refl er.sub,er,Am.nil,IP _,e,rfl⟩,?_⟩
 rintro i m ys hx H' ⟨hi,rfl,G',ws,r,x,cf,ao,hw,cb,et⟩;refine wk!;obtain⟨m7,m8⟩:=fh i G' H' x.g cf.sub;by_cases am:i<f_
 .right;have hd:ds[i]?=some ds[i]:=by simp[am]
  have ye:ds.drop i=ds[i]::ds.drop a1!:=KU am;rw[ye]at cb;unfold Fb at cb;obtain⟨ai,e1,cb⟩:=GG.mp cb;obtain⟨b,e2,cb⟩:=GG.mp cb;obtain⟨go,yl⟩:=m7 _ hd;refine⟨go,jP!⟩;obtain⟨G2,x2,r2⟩:=yl v H2 hy;refine hg (cf.grow x2) r2 e1 λdq mz rm=>⟨G2,ai,b,mz,e2,λG3 H3 x3=>?_⟩;have j6:=mz.grow x3;have lg:Ce G1 H1 G3 H3:=x.trans (x2.trans x3);cases b with
  |true=>
   obtain⟨y,e3,cb⟩:=GG.mp cb;obtain⟨zs,e4,rfl⟩:=GR.mp cb;refine lQ ⟨G3,ai,y,j6,e3,λu G4 H4 x4 r4=>⟨_,?_,am,rfl,G4,ws++[y],zs,lg.trans x4,(j6.grow x4).le rm,?_,?_,e4,?_⟩⟩
   .omega
   .exact cS wl! (Am.cons r4 Am.nil)
   .rw[GW,IM];omega
   .rw[IY];exact et
  |false=>
   refine lR ⟨_,?_,am,rfl,G3,ws,r,lg,j6.le rm,(oe_).mono x3.g,r!,cb,et⟩;omega
 .left;have ii:i=f_:=by omega
  refine⟨m8 ii,k ys G' H' x ?_⟩;rw[ii,OL]at cb;cases cb;rw[HP]at et;subst et;exact ao
def kH{scope:Scope}{NL:j_}{ix:j!}{g:TG}{bnd:ad_}{fe:d_}
  (ce:dd!)(b8:dd_)(j4:∀y∈b8!,y.2=.local->scope.names.lookup y.1=some .local)
  (g9:gH_)(cap:dc_)(m9:jz_)(calm:bu!)(az:DI X own tg iter fi)
  (hg:gI!)(ng:of_)(hi:∀cl C al a9 fp,Pi b9_ c8 wl_)(he:∀cl C al a9 fp,DE b9_ [] du fe)
  (hs:c2_:=by intro _;rfl):
  DE X own gG! (Ey NL.length ix fi bnd ft fe):=
 eE wm_ λZ G H Q ρ d er e k=>by
  show"!G"
  .rename_i O;obtain⟨ji,e2,rfl⟩:=GR.mp e;refine⟨G,ρ,ds,er,e1,wn!⟩;refine c9h O fh ng ((og!).cap NL.length ix m9) e2 λys G' H' x r p hp=>?_;exact k _ _ _ (x1.trans (x.trans gY_)) (dQ og_ r)
  .cases e
def zA:Pi X [] (Yz X.K [] λ_=>some true):=λJ s Z H Q I ⟨G,ρ,b,er,e,k⟩=>by
 cases e;exact a5q J s Z H Q I (k G H gO_)
def d0o(h:DT X [] c ft):Pi X [c] wl_:=a5p h.ok
end
inductive Fl where
 |nx (ρ:Ad)|rt (d:D)
structure SR(K:zT!)(own:j!)(G0 F0 G H:Hp)(Z:St)(ρ:Ad):Prop where
 or:OR K own G H Z ρ
 ext:Ce G0 F0 G H
 fr:∀i∈own,∀p,Z[i]?=some ca_->F0 p=none
inductive CD(K:zT!)(G0 F0:Hp)(own h2:j!)(f:aH!)(E:Uv)(Z:St)(H:Hp):Prop
 |mk (G:Hp) (ρ:Ad) (r:Fl) (o:ff!) (e:f ρ=some r) (k:match(generalizing:=false) r with
  |.nx ρ'=>∀G' hx H',SR K h2 G0 F0 G' H' hx ρ'->E.nx hx H'
  |.rt d=>∀v G' H',Ce G0 F0 G' H'->Ar K G' d v->E.rt v H'):CD K G0 F0 own h2 f E Z H
structure DS(X:Cx)(own h2:j!)(st:Stmt)(f:aH!):Prop where
 ok:∀G0 F0,PS X st wn_
structure Xa(X:Cx)(own h2:j!)(st:bG_)(f:aH!):Prop where
 ok:∀G0 F0,Tz X st wn_
section
variable{X:Cx}{own bh jj:List Nat}{st:Stmt}{rest body:List Stmt}{e a b c tg:Expr}{es:List Expr}{pos p2:Pos}{f fa fb fc:Ad->Option D}{fs fi:Ad->Option (List D)}{ft fu:Ad->Option Bool}{q1 q2 q3:Ad->Option Fl}
def c6a{t:TS}(h:ib_)(hw:∀G0 F0 E Z G H ρ r,SR X.K own G0 F0 G H Z ρ->q1 ρ=some r->(match r with
  |.nx ρ'=>∀G' hx H',SR X.K bh G0 F0 G' H' hx ρ'->E.nx hx H'
  |.rt d=>∀v G' H',Ce G0 F0 G' H'->Ar X.K G' d v->E.rt v H')->t E Z H):DS X own bh st q1:=⟨λG0 F0 J s Z H E I ⟨G,ρ,r,er,e,k⟩=>h J s Z H E I (hw G0 F0 E Z G H ρ r er e k)⟩
def SR.grow{K:zT!}{G0 F0 G H G' H':Hp}{Z:St}{ρ:Ad}(s:ff!)(x:jz!):SR K own G0 F0 G' H' Z ρ:=⟨s.or.grow x,s.ext.trans x,s.fr⟩
def SR.set{K:zT!}{G0 F0 G H:Hp}{Z:St}{ρ:Ad}{i:Nat}(s:ff!)(hi:bl!)(r:cb_):SR K own G0 F0 G H ew! bN_:=
 ⟨s.or.set hi r,s.ext,λj hj p e=>by
  have ne:i≠j:=λz=>hi (z▸hj);rw[HX ne]at e;exact s.fr j hj p e⟩
def Cq:Ad->Option Fl:=λρ=>some am_
nonrec def sSeq(q1 q2:aH!):Ad->Option Fl:=λρ=>(q1 ρ).bind λr=>match r with|.nx ρ'=>q2 ρ'|.rt d=>some aW_
def dR:Xa X own own [] Cq:=⟨λG0 F0 J s Z H E I ⟨G,ρ,r,er,e,k⟩=>by
 cases e;exact b1t J s Z H E I (k G Z H er)⟩
def aZ(B:wo!)(Y:Xa X bh jj rest q2):Xa X own jj lV_ (sSeq q1 q2):=⟨λG0 F0 J s Z H E I ⟨G,ρ,r,er,e,k⟩=>by
 refine a5o oh! (Y.ok G0 F0) J s Z H E I ?_;obtain⟨r1,e1,e2⟩:=GG.mp e;refine⟨G,ρ,r1,er,e1,?_⟩;cases r1 with
 |nx ρ'=>exact λG' hx H' cf=>⟨G',ρ',r,cf,e2,k⟩
 |rt d=>
  cases e2;exact k⟩
def bA(B:wo!):Xa X own bh [st] q1:=⟨λG0 F0=>b1s oh!⟩
def SR.free{K:zT!}{G0 F0 G H:Hp}{Z:St}{ρ:Ad}(s:ff!):SR K [] G0 F0 fa! H Z ρ:=by
 have o:=s.or.full;refine⟨o,⟨jy_,s.ext.h,o.sub,bk_⟩,al_⟩
 .have z:=s.ext.g b u e;unfold Km;split
  .exact s.or.sub b u z
  .exact z
 .unfold Km at h;split at h
  .rename_i O;obtain⟨i,hi,q⟩:=mO O;exact .inr (s.fr i hi b q)
  .exact s.ext.new b h
def a7p(h:Xa X [] jj rest q1):Xa X own jj rest q1:=⟨λG0 F0 J s Z H E I ⟨G,ρ,r,er,e,k⟩=>h.ok G0 F0 J s Z H E I ⟨_,ρ,r,er.free,e,k⟩⟩
def Bh(f:d_):Ad->Option Fl:=λρ=>(ag!).map Fl.rt
def bO(h:dj!):DS X own bh lW! (Bh f):=c6a (b7r h.ok) λG0 F0 E Z G H ρ r er e' k=>by
 obtain⟨d,e1,rfl⟩:=GR.mp e';exact⟨G,ρ,d,er.or,e1,λv G' H' x r=>k v G' H' (er.ext.trans x) r⟩
def Cj(i:Nat)(f:d_):Ad->Option Fl:=λρ=>(ag!).map λd=>.nx bN_
def fH{i:Nat}(hN:br!)(hi:ah_)(L:br_)(h:dj!)(bp:bl!:=by decide)(hs:wp!:=by rfl)
  (hf:X.fn x=true\/X.env.scope.names.lookup x=some .local:=by first|exact .inl rfl|exact .inr rfl|assumption):DS X own own wp_ (Cj i f):=
 c6a wq! λG0 F0 E Z G H ρ r er e' k=>by
  obtain⟨d,e1,rfl⟩:=GR.mp e';exact⟨G,ρ,d,er.or,e1,λv G' H' x r=>k G' _ H' ((gZ!).set bp r)⟩
def Gb(ft:af_)(q1 q2:aH!):Ad->Option Fl:=λρ=>(gR_).bind λb=>if b then q1 ρ else q2 ρ
def gH{b1 b2:bG_}(hc:DT X own c ft)(B:Xa X own bh b1 q1)(Y:Xa X own bh b2 q2):DS X own bh wq_ (Gb ft q1 q2):=⟨λG0 F0 J s Z H E I ⟨G,ρ,r,er,e',k⟩=>by
 refine c5o hc.ok oh! (Y.ok G0 F0) J s Z H E I ?_;obtain⟨x,e1,e2⟩:=GG.mp e';refine⟨G,ρ,x,er.or,e1,λG' H' x'=>?_⟩;cases x with
 |true=>exact lQ wr!
 |false=>exact lR wr!⟩
def Jv(i:Nat)(fs:am!):Ad->Option Fl:=λρ=>(fb!).bind λds=>if f_<=1000 then some (.nx oh_)else none
def SR.ownNew{K:zT!}{G0 F0 G H:Hp}{Z:St}{ρ:Ad}{i:Nat}(s:ff!)(hi:bl!)(hl:i<fS_)(r:gZ_)(hp:cE!):
  SR K (i::own) G0 F0 G jx! (Z.set i ca_) oh_:=by
 have yf:i<gL!:=by rw[s.or.len];exact hl
 have yg:Bg H jx!:=hX hp;show"#/";refine⟨⟨wr_,by rw[KD,KD,s.or.len],wt!,jQ!,λj hj k hk b9 a b e1 e2=>?_⟩,⟨s.ext.g,s.ext.h.trans yg,wr_,s.ext.new⟩,λj hj a e=>?_⟩
 .have cp:i≠j:=λz=>n (by rw[z];exact GO);rw[HX cp]at q ⊢;exact s.or.at_ j d q λz=>n (GI _ z)
 .obtain z|z:=GJ.mp hj
  .subst z;exact⟨p,ds,vs,by rw[IZ yf],by rw[IZ hl],bP,s.or.sub.free hp,r⟩
  .have cp:i≠j:=λy=>hi (y▸z);obtain⟨a,rq,f9,B,Y,h3,h4,h5⟩:=s.or.own_ j z;exact⟨a,rq,f9,by rw[HX cp];exact B,by rw[HX cp];exact Y,by rw[aV (ne h3)];exact h3,h4,h5⟩
 .have look:∀{j:Nat} {a:xh!},j∈i::own->(Z.set i ca_)[j]?=some (some e7!)->(j=i/\a=p)\/(j≠i/\j∈own/\Z[j]?=some (some e7!)/\a≠p):=λ{j a} hj e=>by
   by_cases cp:i=j
   .subst cp;rw[IZ hl]at e;cases e;exact .inl bI_
   .rw[HX cp]at e;have hm:j∈own:=(GJ.mp hj).elim wu! id;obtain⟨a',rq,f9,B,Y,h3,h4,h5⟩:=s.or.own_ j hm;rw[e]at Y;cases Y;exact .inr ⟨GN cp,hm,e,ne h3⟩
  obtain⟨z1,z2⟩|⟨z1,z2,z3,z4⟩:=look hj e1
  .obtain⟨y1,y2⟩|⟨y1,y2,y3,y4⟩:=look hk e2
   .exact absurd (z1.trans y1.symm) b9
   .rw[z2];exact GN y4
  .obtain⟨y1,y2⟩|⟨y1,y2,y3,y4⟩:=look hk e2
   .rw[y2];exact z4
   .exact s.or.dis j z2 k y2 b9 a b z3 y3
 .by_cases cp:i=j
  .subst cp;rw[IZ hl]at e;cases e;exact s.ext.h.free hp
  .rw[HX cp]at e;exact s.fr j ((GJ.mp hj).elim wu! id) a e
def lW{i:Nat}{p3 p4:Pos}(hN:br!)(hi:ah_)(L:br_)(h:jF!)(bp:bl!:=by decide)
  (hf:X.fn x=true\/X.env.scope.names.lookup x=some .local:=by first|exact .inl rfl|exact .inr rfl|assumption)(bu:swapsWith (.List es p2) (some (.Name x p3)) p4.line X.env=pure false:=by rfl):DS X own (i::own) (.Assign [.Name x p3] (.List es p2) p4) (Jv i fs):=⟨λG0 F0 J s Z H E I ⟨G,ρ,r,er,e',k⟩=>by
  refine a9h hN hi L nZ_ bu hf J s Z H E I ?_;have hl:i<fS_:=by rw[I.len];exact(HC.mp hi).1
  obtain⟨ds,e1,e2⟩:=GG.mp e';split at e2
  .rename_i hsz;cases e2;exact⟨G,ρ,ds,er.or,e1,λvs G' H' x r=>⟨by rw[<-aI r];exact gF hsz,λp hp=>k G' _ _ ((gZ!).ownNew bp hl r hp)⟩⟩
  .cases e2⟩
def SR.upd{K:zT!}{G0 F0 G H:Hp}{Z:St}{ρ:Ad}{i:Nat}(s:ff!)(hi:d3_)(hp:vC!)(r:gZ_):
  SR K own G0 F0 G jx! Z oh_:=by
 obtain⟨p',rq,f9,B,Y,h3,h4,h5⟩:=s.or.own_ i hi;rw[hp]at Y;cases Y;have hG:∀{b u},G b=some u->b≠p:=λe=>cD e h4;have hF:∀{b u},F0 b=some u->b≠p:=λe=>cD e (s.fr i hi p hp);have yf:i<gL!:=(g0!).1;refine⟨⟨wu_,by rw[KD,s.or.len],wt!,jQ!,s.or.dis⟩,⟨s.ext.g,λb u e=>by rw[aV (hF e)];exact s.ext.h b u e,wu_,s.ext.new⟩,s.fr⟩
 .have cp:i≠j:=λz=>n (z▸hi);rw[HX cp]at q;exact s.or.at_ j d q n
 .by_cases cp:i=j
  .subst cp;exact⟨p,ds,vs,by rw[IZ yf],hp,bP,h4,r⟩
  .obtain⟨a,XR,yh,g1,g2,g3,g4,g5⟩:=s.or.own_ j hj;have ne:a≠p:=GN (s.or.dis i hi j hj cp p a hp g2);exact⟨a,XR,yh,by rw[HX cp];exact g1,g2,by rw[aV ne];exact g3,g4,g5⟩
def My(i:Nat)(f:d_):Ad->Option Fl:=λρ=>(ag!).bind λd=>match ρ[i]? with|some (some (.lst ds))=>if f_<big then some wv! else none|_=>none
def mS{i:Nat}{x:Str}{ag ab:Pos}(bp:d3_:=by decide)(h:dj!)(hN:ah_:=by rfl)(hv:cU_:=by first|exact Or.inl rfl|exact Or.inr a_|exact Or.inr bl_)
  (hd:F!:=by decide)(bv:cV!:=by decide)
  (bz:jR!:=by rfl)(gj:((je_).all cy!&&(cy_).all cz!
   &&decide wv_)=true:=by rfl) (dh:cx_:=by rfl)
  (df:attributeBase bn! "append" X.env jR_=eval bn! X.env:=by rfl) (gk:g1!:=by rfl) (j7:swapsWith ww! none pos.line X.env=pure false:=by rfl):
  DS X own own (.Expr ww! pos) (My i f):=⟨λG0 F0 J s Z H E I ⟨G,ρ,r,er,e',k⟩=>by
  refine tZ (zC LD PySem.F.slot_list_append PySem.F.type_list_append zJ jB_ wx! df gj dh bz gk) j7 J s Z H E I ?_;obtain⟨d,e1,e2⟩:=GG.mp e';obtain⟨p,ds,vs,B,Y,h3,h4,h5⟩:=er.or.own_ i bp;rw[B]at e2;simp only at e2;split at e2
  .rename_i hl;cases e2;refine⟨ff_,Y,oj!,G,ρ,d,er.or,e1,λv G' H' x r=>⟨p,vs,v,rfl,rfl,x.h _ _ h3,?_,?_⟩⟩
   .rw[<-aI h5];exact HH hl jS!
   .exact k G' Z _ ((gZ!).upd bp Y (cS oj_ (Am.cons r Am.nil)))
  .cases e2⟩
def Uh(i:Nat)(fx fv:d_):Ad->Option Fl:=λρ=>(fv ρ).bind λd=>(fx ρ).bind λx=>match x,ρ[i]? with|.int j,some (some (.lst ds))=>(ok!).map λk=>.nx wx_|_,_=>none
def c0q{i:Nat}{x:Str}{fx fv:d_}(bp:d3_:=by decide)(L:wy!)(hv:DE X own e fv)(hN:ah_:=by rfl)(yi:cU_:=by first|exact Or.inl rfl|exact Or.inr a_|exact Or.inr bl_)
  (hd:F!:=by decide)(bv:cV!:=by decide)
  (ha:∀v,assign wy_ X.env v=(do
   let ov <-holding [v] jR_
   let iv <-holding [v,ov] (eval ix X.env)
   standAt p2
   holding eC! lY_
   release eC! []):=by intro _;rfl)
  (hs:swapsWithSole jS_ e pos.line X.env=pure false:=by rfl) (hw:swappedStores jS_ e X.env=pure none:=by rfl)
  (B:(assignEach jS_ X.env).map z_=[assign wy_ X.env]:=by rfl):
  DS X own own (.Assign jS_ e pos) (Uh i fx fv):=⟨λG0 F0 J s Z H E I ⟨G,ρ,r,er,e',k⟩=>by
  refine b7t hv.ok (b7x wz! L.ok a4v ha) hs hw B J s Z H E I ?_;obtain⟨d,e1,e2⟩:=GG.mp e';obtain⟨z,e3,e4⟩:=GG.mp e2;obtain⟨p,ds,vs,B,Y,h3,h4,h5⟩:=er.or.own_ i bp;rw[B]at e4;cases z<;>first|cases e4|skip
  rename_i j;obtain⟨n,e5,rfl⟩:=GR.mp (show(ok!).map _=some r from e4);refine⟨G,ρ,d,er.or,e1,λv G' H' x r=>⟨ff_,Y,G',ρ,eE!,er.or.grow x,e3,wz_⟩⟩;cases aX r2;refine⟨p,vs,j,n,rfl,rfl,wA!,by rw[<-aI h5];exact e5,?_⟩;exact k G2 Z _ (((gZ!).grow x2).upd bp Y (vG (r.mono x2.g) n ((oj_).mono x2.g)))⟩
def Lo(i:Nat)(fx:d_):Ad->Option D:=λρ=>(fx ρ).bind λx=>match x,ρ[i]? with|.int j,some (some (.lst ds))=>Db ds j|_,_=>none
def rZ{i:Nat}{x:Str}{fx:d_}(bp:d3_:=by decide)(L:wy!)(hs:Pp ix)(hN:ah_:=by rfl)(yi:cU_:=by first|exact Or.inl rfl|exact Or.inr a_|exact Or.inr bl_)
  (hd:F!:=by decide)(bv:cV!:=by decide):DE X own (.Subscript bn! ix pos) (Lo i fx):=
 eE (b8f b2z wz! L.ok hs) λZ G H Q ρ d er e k=>by
  obtain⟨z,e3,e4⟩:=GG.mp e;obtain⟨p,ds,vs,B,Y,h3,h4,h5⟩:=er.own_ i bp;rw[B]at e4;cases z<;>first|cases e4|skip
  rename_i j;have e5:Db ds j=some d:=e4;obtain⟨v,e6,r6⟩:=oT h5 e5;refine⟨ff_,Y,G,ρ,eE!,er,e3,wz_⟩;cases aX r2;exact⟨p,vs,j,v,rfl,rfl,Et.of (x2.h _ _ h3),e6,k v G2 H2 x2 (r6.mono x2.g)⟩
def Qs(bnd:ad_)(q:aH!):List D->Ad->Option Fl
 |[],ρ=>some am_
 |d::ds,ρ=>(jO!).bind λai=>(q ai).bind λr=>match r with|.nx bg=>Qs bnd q ds bg|.rt d=>some aW_
def Rb(fi:am!)(bnd:ad_)(q:aH!):Ad->Option Fl:=λρ=>(fi ρ).bind λds=>Qs bnd q ds ρ
def Qw(F0 G1:Hp):Hp:=λb=>match F0 b with|some o=>some o|none=>G1 b
def SR.base{K:zT!}{G0 F0 G1 H1:Hp}{Z:St}{ρ:Ad}(s:SR K own G0 F0 G1 H1 Z ρ):SR K own G1 g3! G1 H1 Z ρ:=by
 refine⟨s.or,⟨Bg.refl _,jy_,s.or.sub,dm!⟩,wB!⟩
 .unfold Qw at e;show"!6"
  .rename_i o ho;cases e;exact s.ext.h b _ ho
  .exact s.or.sub b u e
 .obtain⟨p',ds,vs,B,Y,h3,h4,h5⟩:=s.or.own_ i hi;rw[e]at Y;cases Y;unfold Qw;rw[s.fr i hi p e];exact h4
def wZ{G0 F0 G1 H1 G' H':Hp}(x:wB_)(y:Ce G1 g3! G' H'):Ce G0 F0 G' H':=by
 refine⟨x.g.trans y.g,λb u e=>y.h b u ?_,y.sub,bk_⟩
 .unfold Qw;rw[e]
 .obtain z|z:=y.new b h
  .exact x.new b z
  .right;unfold Qw at z;split at z
   .cases z
   .assumption
def SR.unbase{K:zT!}{G0 F0 G1 H1 G' H':Hp}{Z:St}{ρ:Ad}(x:wB_)(s:SR K own G1 g3! G' H' Z ρ):SR K own G0 F0 G' H' Z ρ:=
 ⟨s.or,wZ x s.ext,λi hi p e=>by
  have z:=s.fr i hi p e;unfold Qw at z;split at z
  .cases z
  .assumption⟩
def Bs(i:Nat):D->Ad->Option Ad:=λd ρ=>some bN_
def b0r{i:Nat}(hp:f5!)(hc:bu!)(az:DI X own dk! iter fi)(hN:br!)(hi:ah_)(L:br_)(O:Xa X own own body q1)(bp:bl!:=by decide)
  (hf:X.fn x=true\/X.env.scope.names.lookup x=some .local:=by first|exact .inl rfl|exact .inr rfl|assumption)(hs:c2_:=by intro _;rfl):
  DS X own own (.For dk! iter body [] pos) (Rb fi (Bs i) q1):=⟨λG0 F0 J s Z H E I ⟨G,ρ,r,er,e',k⟩=>by
 obtain⟨ds,e1,e2⟩:=GG.mp e';have cg:Tz X body (λE Z H=>∃A hb,CD X.K A hb own own q1 E Z H):=λJ s Z H E I ⟨A,hb,h⟩=>O.ok A hb J s Z H E I h;refine b7s hp hc az.ok (bD hN hi L hf) cg hs J s Z H E I ⟨G,ρ,ds,er.or,e1,wn!⟩;have TC:Ce G0 F0 G1 H1:=er.ext.trans x1;refine⟨λn m hx H'=>n<=f_/\m=f_ - n/\∃G' ρ',SR X.K own G1 g3! G' H' hx ρ'/\Qs (Bs i) q1 nJ! ρ'=some r,
  ⟨f_,IP _,rfl,G1,ρ,(og!).base,e2⟩,?_⟩
 rintro n m hx H' ⟨hn,rfl,G',ρ',cf,e3⟩;obtain⟨m7,m8⟩:=fh n G' H' cf.ext.g cf.or.sub;by_cases am:n<f_
 .right;have hd:ds[n]?=some ds[n]:=by simp[am]
  have ye:ds.drop n=ds[n]::ds.drop bC_:=KU am;rw[ye]at e3;unfold Qs at e3;obtain⟨ai,e4,e3⟩:=GG.mp e3;obtain⟨r1,e5,e3⟩:=GG.mp e3;cases e4;obtain⟨go,yl⟩:=m7 _ hd;refine⟨go,λc7 H2=>∃G2 bg,SR X.K own G1 g3! G2 H2 c7 bg/\Qs (Bs i) q1 (ds.drop bC_) bg=some r,λc7 H2 ⟨G2,bg,B,Y⟩=>⟨f_ - bC_,r!,am,rfl,G2,bg,B,Y⟩,jP!⟩;obtain⟨G2,x2,r2⟩:=yl v H2 hy;refine⟨G1,Qw F0 G1,G2,_,r1,(cf.grow x2).set bp r2,e5,?_⟩;cases r1 with
  |nx bg=>exact λG3 gh H3 j6=>⟨G3,bg,j6,e3⟩
  |rt d=>
   cases e3;exact λw G3 H3 x3 r3=>k w G3 H3 (wZ TC x3) r3
 .left;have ii:n=f_:=by omega
  refine om!;rw[ii,OL]at e3;cases e3;exact k G' hx H' (SR.unbase TC cf)⟩
def a4t{K:zT!}{G H:Hp}{N:j_}{ds:b_}(s:K!)(r:gZ_):OR K [] G H (L2.Mi N vs) g3_:=by
 have hl:=aI r;unfold L2.Mi;refine⟨s,by simp[hl],nL!,al_,al_⟩;by_cases hi:i<f_
 .rw[JH gt!,HY]at q;obtain⟨d',B,Y⟩:=GR.mp q;cases Y;obtain⟨v,h3,h4⟩:=eW r B;exact⟨v,by rw[JH (by simpa[<-hl]using hi),HY,h3];rfl,h4⟩
 .rw[eS_,MN]at q;split at q<;>cases q
end
def c8y{K:zT!}{mg:B_}{st:Stmt}{N ps:j_}{k:Nat}{h2:j!}{q:aH!}{g:W_}
  (F:wE!)(S:dV_)
  (O:∀(ae:xL!) (A:xz!) (outer:aq_) (s:zS!) (H:Hp) (E:XK),Ak k om_->Xa (on!).nox [] h2 bL_ q)
  (hg:∀ds d,f_=S!->g ds=some d->q g3_=some aW_\/∃ρ,q g3_=some am_/\d=.non):
  Fk P w K mg base Pk P_ σ fd ps jW_:=by
 refine wE_;obtain⟨hl,G,ds,d,sub,r,e,kk⟩:=h;refine⟨_,(wF!).ok G H,?_⟩;have er:=a4t (N:=N) sub r;rcases hg ds d (by rw[aI r];exact hl) e with z|⟨ρ,z,rfl⟩
 .exact⟨G,_,_,wF_,z,λv G' H' x r=>kk v G' H' x r⟩
 .exact⟨G,_,_,wF_,z,λG' hx H' cf=>kk _ G' H' cf.ext Ar.non⟩
mutual
noncomputable def Eo:D->D->Bool
 |.non,.non=>true
 |.bl a,.bl b=>a==b
 |.bl a,.int b=>up_==b
 |.int a,.bl b=>a==uq!
 |.int a,.int b=>a==b
 |.str a,.str b=>a==b
 |.tup xs,.tup ys=>Iu xs ys
 |.lst xs,.lst ys=>Iu xs ys
 |_,_=>false
noncomputable def Iu:List D->List D->Bool
 |[],[]=>true
 |x::xs,y::ys=>Eo x y&&Iu xs ys
 |_,_=>false
end
mutual
noncomputable def Be:D->Bool
 |.fn _=>false
 |.dk _=>false
 |.tup xs=>Bu xs
 |.lst xs=>Bu xs
 |_=>true
noncomputable def Bu:List D->Bool
 |[]=>true
 |d::ds=>Be d&&Bu ds
end
section
variable{X:Cx}{J:List (Addr×Obj)}{Z:St}{H:Hp}{s:zS!}
def uR(I:d!)(h:jX!)(h':Et X.K H a ws):False:=by obtain⟨_,_,⟨o,e,c,_⟩,_⟩:=I.tuple h;obtain⟨_,_,⟨o',n,e',c',_⟩,_⟩:=I.list h';rw[e]at e';cases e';rw[c]at c';exact absurd c' c_
mutual
theorem a1h(I:d!):∀(d d':D) (v:V),Be d=true->Be d'=true->Ar X.K H d v->Ar X.K H d' v->d=d'
 |.non,d',v,n,n',r,r'=>by
  cases dW r;cases d'<;>first
   |rfl
   |(unfold Ar at r';cases r';done)
   |(obtain⟨a,vs,e,_⟩:=bN r';cases e)
   |(obtain⟨a,vs,e,_⟩:=bJ r';cases e)
   |(unfold Be at n';cases n')
 |.bl b,d',v,n,n',r,r'=>by
  cases cX r;cases d'<;>first
   |(cases cX r';rfl;done)
   |(unfold Ar at r';cases r';done)
   |(obtain⟨a,vs,e,_⟩:=bN r';cases e)
   |(obtain⟨a,vs,e,_⟩:=bJ r';cases e)
   |(unfold Be at n';cases n')
 |.int b,d',v,n,n',r,r'=>by
  cases aX r;cases d'<;>first
   |(cases aX r';rfl;done)
   |(unfold Ar at r';cases r';done)
   |(obtain⟨a,vs,e,_⟩:=bN r';cases e)
   |(obtain⟨a,vs,e,_⟩:=bJ r';cases e)
   |(unfold Be at n';cases n')
 |.str b,d',v,n,n',r,r'=>by
  cases bT r;cases d'<;>first
   |(cases bT r';rfl;done)
   |(unfold Ar at r';cases r';done)
   |(obtain⟨a,vs,e,_⟩:=bN r';cases e)
   |(obtain⟨a,vs,e,_⟩:=bJ r';cases e)
   |(unfold Be at n';cases n')
 |.tup xs,d',v,n,n',r,r'=>by
  obtain⟨a,vs,rfl,q,rr⟩:=bN r;cases d' with
  |tup ys=>
   obtain⟨a',f9,e,q',bx⟩:=bN r';cases e;have:=I.tuple_inj q q';subst this;unfold Be at n n';rw[wG!]
  |lst ys=>
   obtain⟨a',f9,e,q',bx⟩:=bJ r';cases e;exact(uR I q q').elim
  |fn b=>unfold Be at n';cases n'
  |dk b=>unfold Be at n';cases n'
  |non=>cases dW r'
  |bl b=>cases cX r'
  |int b=>cases aX r'
  |str b=>cases bT r'
 |.lst xs,d',v,n,n',r,r'=>by
  obtain⟨a,vs,rfl,q,rr⟩:=bJ r;cases d' with
  |lst ys=>
   obtain⟨a',f9,e,q',bx⟩:=bJ r';cases e;have:=I.list_inj q q';subst this;unfold Be at n n';rw[wG!]
  |tup ys=>
   obtain⟨a',f9,e,q',bx⟩:=bN r';cases e;exact(uR I q' q).elim
  |fn b=>unfold Be at n';cases n'
  |dk b=>unfold Be at n';cases n'
  |non=>cases dW r'
  |bl b=>cases cX r'
  |int b=>cases aX r'
  |str b=>cases bT r'
 |.fn a,d',v,n,n',r,r'=>by unfold Be at n;cases n
 |.dk a,d',v,n,n',r,r'=>by unfold Be at n;cases n
theorem vH(I:d!):∀(ds es:b_) (vs:k!),Bu ds=true->Bu es=true->Am X.K H ds vs->Am X.K H es vs->ds=es
 |[],es,vs,n,n',r,r'=>by
  cases cU r;cases es with
  |nil=>rfl
  |cons e es=>obtain⟨v,t,z,_⟩:=bQ r';cases z
 |d::ds,es,vs,n,n',r,r'=>by
  obtain⟨v,t,rfl,r1,r2⟩:=bQ r;cases es with
  |nil=>cases cU r'
  |cons e es=>
   obtain⟨v',t',z,r9,se⟩:=bQ r';cases z;unfold Bu at n n';rw[HK]at n n';rw[a1h I d e v n.1 n'.1 r1 r9,vH I ds es t n.2 n'.2 r2 se]
end
mutual
theorem pY:∀d:D,Be d=true->Eo d d=true
 |.non,_=>by simp[Eo]
 |.bl b,_=>by simp[Eo]
 |.int i,_=>by simp[Eo]
 |.str s,_=>by simp[Eo]
 |.tup xs,h=>by unfold Eo;exact rV xs wG_
 |.lst xs,h=>by unfold Eo;exact rV xs wG_
 |.fn a,h=>by simp[Be]at h
 |.dk k,h=>by simp[Be]at h
theorem rV:∀ds:List D,Bu ds=true->Iu ds ds=true
 |[],_=>by simp[Iu]
 |d::ds,h=>by
  unfold Bu at h;rw[HK]at h;unfold Iu;rw[pY d h.1,rV ds h.2];rfl
end
def a5h(I:d!)(d d':D)(v:V)(n:cf!)(n':fg_)(r:ec!)(r':Ar X.K H d' v):Eo d d'=true:=by rw[<-a1h I d d' v n n' r r'];exact pY d n
def mQ(A:xz!):A.in1.units=A.units+1:=rfl
def lX:∀(xs ys:b_),i_=M_->((List.range i_).all λj=>Eo (xs.getD j .non) (ys.getD j .non))=Iu xs ys
 |[],[],_=>rfl
 |x::xs,y::ys,h=>by
  have ih:=lX xs ys jX_;unfold Iu;rw[GS,List.range_succ_eq_map,LW,<-ih,List.all_map];rfl
 |[],_::_,h=>by simp at h
 |_::_,[],h=>by simp at h
def lU:∀(xs ys:b_),i_≠M_->Iu xs ys=false
 |[],[],h=>absurd rfl h
 |x::xs,y::ys,h=>by
  unfold Iu;rw[lU xs ys jX_,PM]
 |[],_::_,_=>rfl
 |_::_,[],_=>rfl
def pS{ds es:b_}{us us':h_}(rd:g4!)(re:g4_)(rv:ex_)(ao:Ba ws us')
  (h:∀(j:Nat) u u',us[j]?=some u->us'[j]?=some u'->SeqAt.EqAt A s u u' jY!):
  ∀j (B:j<jY_) (Y:j<op_),SeqAt.EqAt A s cC_[j] oq![j] jY!:=λj B Y=>by
 have l1:j<ap_:=by simpa using B
 have l2:j<us'.length:=by simpa using Y
 exact h j _ _ (by simp[l1]) (by simp[l2])
def yY{ds es:b_}{A:xz!}(I:d!)(qa:jX!)(qb:Fz X.K H b ws)(rd:g4!)(re:g4_)(hu:an!)
  (h:jZ_):SeqAt.RcAt A s aa_ dS! (Iu ds es):=by
 obtain⟨us,rv,p1,_⟩:=I.tuple qa;obtain⟨us',ao,p2,_⟩:=I.tuple qb;have B:=aI rd;have Y:=aI re;have h3:=dJ!;have h4:=j0!;have z:=SeqAt.RcAt.tuples (A:=A) (e:=j0_) p1 p2 hu j1!;have e:wI!=Iu ds es:=by
  show"#1"
  .rw[hl,Nat.min_self,<-hl,j1_,hl];simp
  .rw[j2!];have:(f_==ae!)=false:=by simpa using hl
   rw[this,PM]
 rw[e]at z;exact z
def a5m{ds es:b_}{A:xz!}(I:d!)(qa:oq_)(qb:Et X.K H b ws)(rd:g4!)(re:g4_)(hu:an!)
  (h:jZ_):SeqAt.RcAt A s aa_ dS! (Iu ds es):=by
 show"!>";have h4:=j0!;by_cases hl:f_=ae!
 .have z:=SeqAt.RcAt.lists (A:=A) (e:=j0_) p1.isList p2.isList n1_ hu j1!;rw[GQ,<-h3,<-B,j1_]at z;exact z
 .rw[j2!];exact SeqAt.RcAt.lists_lengths p1.isList p2.isList wI_ hu
def c0a(I:d!)(q:jX!):∃items,s.heap.IsTuple a items:=let⟨its,_,p,_⟩:=I.tuple q;⟨_,p⟩
def b5j(I:d!)(q:oq_):∃items,s.heap.IsList a items:=let⟨its,_,p,_⟩:=I.list q;⟨_,p.isList⟩
inductive RV(X:Cx)(H:Hp)(s:zS!):D->Value->Prop
 |non:RV X H s .non .none
 |bl (b:Bool):RV X H s bI! nA_
 |int (i:Int) (t:Tok):RV X H s bb_ dx_
 |str (x:Str) (t:Tok):RV X H s dE! lk_
 |tup {xs:b_} {a:xh!} {its:aa!}:s.heap.IsTuple a its->RV X H s bF! aa_
 |lst {xs:b_} {a:xh!} {its:aa!}:s.heap.IsList a its->RV X H s J_ aa_
def yV(I:d!)(n:cf!)(r:ec!)(ru:bs!):RV X H s d u:=by
 cases d with
 |non=>cases dW r;cases ru;exact .non
 |bl b=>cases cX r;cases ru;exact .bl b
 |int b=>cases aX r;obtain⟨t,rfl⟩:=ru;exact .int b t
 |str b=>cases bT r;obtain⟨t,rfl⟩:=ru;exact .str b t
 |tup ys=>obtain⟨a,ws,rfl,q,_⟩:=bN r;cases ru;obtain⟨its,p⟩:=c0a I q;exact .tup p
 |lst ys=>obtain⟨a,ws,rfl,q,_⟩:=bJ r;cases ru;obtain⟨its,p⟩:=b5j I q;exact .lst p
 |fn a=>unfold Be at n;cases n
 |dk a=>unfold Be at n;cases n
def lV(I:d!){A:xz!}(n:cf!)(n':fg_)(hu:an!)(r:ec!)(r':g5!)(ru:bs!)(ap:g5_)(hT:∀xs ys,d=.tup xs->d'=.tup ys->SeqAt.EqAt A s u u' dn_)(hL:∀xs ys,d=.lst xs->d'=.lst ys->SeqAt.EqAt A s u u' dn_):SeqAt.EqAt A s u u' dn_:=by
 show"!k"
 all_goals first|exact hT _ _ rfl rfl|exact hL _ _ rfl rfl|(unfold Eo;with_reducible first|exact .none_none|exact .same _|exact .none_bool _|exact .none_int _ _|exact .none_str _ _|exact .none_tuple ‹_› hu|exact .none_list ‹_› hu|exact .bool_none _|exact .bool_bool _ _|exact .bool_int _ _ _|exact .bool_str _ _ _|exact .bool_tuple _ ‹_› hu|exact .bool_list _ ‹_› hu|exact .int_none _ _|exact .int_bool _ _ _|exact .int_int _ _ _ _|exact .int_str _ _ _ _|exact .int_tuple _ _ ‹_› hu|exact .int_list _ _ ‹_› hu|exact .str_none _ _|exact .str_bool _ _ _|exact .str_int _ _ _ _|exact .str_str _ _ _ _|exact .str_tuple _ _ ‹_› hu|exact .str_list _ _ ‹_› hu|exact .tuple_none ‹_› hu|exact .tuple_bool _ ‹_› hu|exact .tuple_int _ _ ‹_› hu|exact .tuple_str _ _ ‹_› hu|exact .tuple_list ‹_› ‹_› hu|exact .list_none ‹_› hu|exact .list_bool _ ‹_› hu|exact .list_int _ _ ‹_› hu|exact .list_str _ _ ‹_› hu|exact .list_tuple ‹_› ‹_› hu)
def c6o(I:d!){A:xz!}(n:cf!)(n':fg_)(hu:an!)(r:ec!)(r':g5!)(ru:bs!)(ap:g5_)(hT:∀xs ys,d=.tup xs->d'=.tup ys->SeqAt.RcAt A s u u' dn_)(hL:∀xs ys,d=.lst xs->d'=.lst ys->SeqAt.RcAt A s u u' dn_):SeqAt.RcAt A s u u' dn_:=by
 show"!k"
 all_goals first|exact hT _ _ rfl rfl|exact hL _ _ rfl rfl|(unfold Eo;with_reducible first|exact .none_none|exact .same _|exact .none_bool _|exact .none_int _ _|exact .none_str _ _|exact .none_tuple ‹_› hu|exact .none_list ‹_› hu|exact .bool_none _|exact .bool_bool _ _|exact .bool_int _ _ _|exact .bool_str _ _ _|exact .bool_tuple _ ‹_› hu|exact .bool_list _ ‹_› hu|exact .int_none _ _|exact .int_bool _ _ _|exact .int_int _ _ _ _|exact .int_str _ _ _ _|exact .int_tuple _ _ ‹_› hu|exact .int_list _ _ ‹_› hu|exact .str_none _ _|exact .str_bool _ _ _|exact .str_int _ _ _ _|exact .str_str _ _ _ _|exact .str_tuple _ _ ‹_› hu|exact .str_list _ _ ‹_› hu|exact .tuple_none ‹_› hu|exact .tuple_bool _ ‹_› hu|exact .tuple_int _ _ ‹_› hu|exact .tuple_str _ _ ‹_› hu|exact .tuple_list ‹_› ‹_› hu|exact .list_none ‹_› hu|exact .list_bool _ ‹_› hu|exact .list_int _ _ ‹_› hu|exact .list_str _ _ ‹_› hu|exact .list_tuple ‹_› ‹_› hu)
mutual
theorem c0n(I:d!):∀(d d':D) (A:xz!) (v v':V) (u u':xL!),Be d=true->Be d'=true->A.units+Hn d<cLine->Ar X.K H d v->Ar X.K H d' v'->Bp v u->Bp v' u'->SeqAt.EqAt A s u u' dn_
 |.non,d',A,v,v',u,u',n,n',hu,r,r',ru,ap=>lV I n n' a! r r' ru ap a9_ a9_
 |.bl _,d',A,v,v',u,u',n,n',hu,r,r',ru,ap=>lV I n n' a! r r' ru ap a9_ a9_
 |.int _,d',A,v,v',u,u',n,n',hu,r,r',ru,ap=>lV I n n' a! r r' ru ap a9_ a9_
 |.str _,d',A,v,v',u,u',n,n',hu,r,r',ru,ap=>lV I n n' a! r r' ru ap a9_ a9_
 |.fn _,d',A,v,v',u,u',n,n',hu,r,r',ru,ap=>lV I n n' a! r r' ru ap a9_ a9_
 |.dk _,d',A,v,v',u,u',n,n',hu,r,r',ru,ap=>lV I n n' a! r r' ru ap a9_ a9_
 |.tup xs,d',A,v,v',u,u',n,n',hu,r,r',ru,ap=>lV I n n' a! r r' ru ap (λ_ ys e e'=>by
  cases e;subst e';obtain⟨a,vs,rfl,q,rr⟩:=bN r;obtain⟨b,ws,rfl,q',bx⟩:=bN r';cases ru;cases ap;by_cases lh:a=b
  .subst lh;rw[wJ_];exact .same _
  .unfold Be at n n';unfold Hn at hu;unfold Eo;exact .of_refs lh (yY I q q' rr bx a! λus us' rv ao=>kG I xs ys A.in1 vs ws us us' n n' fh_ rr bx rv ao)) a9_
 |.lst xs,d',A,v,v',u,u',n,n',hu,r,r',ru,ap=>lV I n n' a! r r' ru ap a9_ (λ_ ys e e'=>by
  cases e;subst e';obtain⟨a,vs,rfl,q,rr⟩:=bJ r;obtain⟨b,ws,rfl,q',bx⟩:=bJ r';cases ru;cases ap;by_cases lh:a=b
  .subst lh;rw[wJ_];exact .same _
  .unfold Be at n n';unfold Hn at hu;unfold Eo;exact .of_refs lh (a5m I q q' rr bx a! λus us' rv ao=>kG I xs ys A.in1 vs ws us us' n n' fh_ rr bx rv ao))
theorem kG(I:d!):∀(ds es:b_) (A:xz!) (vs ws:k!) (us us':h_),Bu ds=true->Bu es=true->A.units+Dz ds<cLine->Am X.K H ds vs->Am X.K H es ws->Ba vs us->Ba ws us'->
  ∀(j:Nat) u u',us[j]?=some u->us'[j]?=some u'->SeqAt.EqAt A s u u' jY!
 |[],es,A,vs,ws,us,us',n,n',hu,r,r',rv,ao,j,u,u',e,e'=>by
  cases cU r;cases rv;simp at e
 |d::ds,es,A,vs,ws,us,us',n,n',hu,r,r',rv,ao,j,u,u',e,e'=>by
  obtain⟨v,t,rfl,r1,r2⟩:=bQ r;cases es with
  |nil=>
   cases cU r';cases ao;simp at e'
  |cons c es=>
   obtain⟨w,t',rfl,r9,se⟩:=bQ r';unfold Bu at n n';rw[HK]at n n';unfold Dz at hu;cases rv with
   |cons px sf=>
    cases ao with
    |cons XS XT=>
     cases j with
     |zero=>
      simp at e e';subst e e';exact c0n I d c A v w _ _ n.1 n'.1 a! r1 r9 px XS
     |succ j=>
      exact kG I ds es A t t' _ _ n.2 n'.2 a! r2 se sf XT j u u' cP_ (by simpa using e')
end
def c6p(I:d!)(d d':D){A:xz!}(n:cf!)(n':fg_)(hu:wK!)(r:ec!)(r':g5!)(ru:bs!)(ap:g5_):SeqAt.RcAt A s u u' dn_:=
 c6o I n n' a! r r' ru ap (λxs ys e e'=>by
  subst e e';obtain⟨a,vs,rfl,q,rr⟩:=bN r;obtain⟨b,ws,rfl,q',bx⟩:=bN r';cases ru;cases ap;unfold Be at n n';unfold Hn at hu;unfold Eo;exact yY I q q' rr bx a! λus us' rv ao=>kG I xs ys A.in1 vs ws us us' n n' fh_ rr bx rv ao) (λxs ys e e'=>by
  subst e e';obtain⟨a,vs,rfl,q,rr⟩:=bJ r;obtain⟨b,ws,rfl,q',bx⟩:=bJ r';cases ru;cases ap;unfold Be at n n';unfold Hn at hu;unfold Eo;exact a5m I q q' rr bx a! λus us' rv ao=>kG I xs ys A.in1 vs ws us us' n n' fh_ rr bx rv ao)
def Zj(K:zT!):R2:=λx y H Q=>∃dx dy,Ar K H dx x/\Ar K H dy y/\Be dx=true/\Be dy=true/\Hn dx<=40/\Q (.bl (Eo dx dy)) H
def bY(hu:aH_):Gq X (compareOp .Eq) (Zj X.K):=by intro J s Z H x y v u Q I rx ry h;obtain⟨dx,dy,r1,r2,n1,n2,hd,q⟩:=h;exact c6p I dx dy n1 n2 a! r1 r2 rx ry X.prog X.w X.xe _ wL!
def Bc:D->D->Option D:=λx y=>if Be x&&Be y&&decide (Hn x<=40)then some (.bl (Eo x y))else none
def bZ{K:zT!}:Ic K (Zj K) Bc:=by
 show"!0";unfold Bc at e;show"!6"
 .show"!M";exact wM!
 .cases e
end
section
variable{X:Cx}{own:List Nat}{e a b c o i tg:Expr}{es:List Expr}{pos p2:Pos}{f fa fb fc fe:Ad->Option D}{fs fi:Ad->Option (List D)}{ft fu:Ad->Option Bool}
def Bw(g g':aW!)(fa fb fc:d_):Ad->Option D:=λρ=>(d5!).bind λx=>(gP_).bind λy=>(g x y).bind λz=>match z with
 |.bl true=>(fc ρ).bind λu=>g' y u
 |.bl false=>some as_
 |_=>none
def a7t{op ez:CmpOp}{r r':R2}{g g':aW!}(ho:b3!)(hg:d5_)(eh:iA_)(sh:Ic X.K r' g')(ha:Q_)(O:cd_)(hc:DE X own c fc)
  (hm:iB!:=by with_unfolding_all rfl):DE X own iB_ wM_:=
 eE (b8g ho eh ha.ok O.ok hc.ok hm) λZ G H Q ρ d er e k=>by
  obtain⟨x,e1,e⟩:=GG.mp e;obtain⟨y,e2,e⟩:=GG.mp e;obtain⟨z,e3,e⟩:=GG.mp e;refine wN!;have nh:=s1.trans gQ_;cases z<;>first|cases e|skip
  rename_i bb;cases cX r3;refine wN_;cases bb with
  |true=>
   obtain⟨u,e4,e⟩:=GG.mp e;exact lQ ⟨G3,ρ,u,er.grow nh,e4,λq G4 H4 s4 r4=>sh s4.sub wO! r4 e λv G5 H5 s5 r5=>k v G5 H5 wO_ r5⟩
  |false=>
   cases e;exact lR (k _ G3 H3 nh Ar.bl)
def BL(f:d_):Ad->Option D:=λρ=>(ag!).bind λd=>match d with|.int i=>some (.int (-i))|_=>none
def c9c(h:Q_):DE X own (.UnaryOp .USub a pos) (BL fa):=
 eE (d0q c6g h.ok) λZ G H Q ρ d er e k=>by
  obtain⟨x,e1,e⟩:=GG.mp e;cases x<;>first|cases e|skip
  refine fe!;cases aX r1;exact⟨_,rfl,k _ G1 H1 s1 Ar.int⟩
def Yo:R2:=λx y H Q=>∃z n,x=.str z/\y=.int n/\PySem.MulOk z n/\Q (.str (Txt.mul z n)) H
def b2g:Gq X mj! Yo:=by intro J s Z H x y v u Q I rx ry h;obtain⟨z,n,rfl,rfl,hm,q⟩:=h;obtain⟨t,rfl⟩:=rx;obtain⟨t',rfl⟩:=ry;exact SB.mul hm λt' tk=>my_
def Kh:D->Bool
 |.non=>true
 |.bl _=>true
 |.int _=>true
 |.str _=>true
 |_=>false
def a7k{K:zT!}{H:Hp}(h:Kh d=true)(r:gJ!):Mt v=true:=by
 cases d<;>first
  |(cases h;done)
  |(cases dW r;rfl)
  |(cases cX r;rfl)
  |(cases aX r;rfl)
  |(cases bT r;rfl)
def c4k{K:zT!}{H:Hp}(h:Kh d=true)(h':Kh d'=true)(r:gJ!)(r':Ar K H d' v'):Xd v v'=Eo d d':=by
 cases d<;>first
  |(cases h;done)
  |skip
 all_goals (cases d'<;>first
  |(cases h';done)
  |skip)
 all_goals first
  |(cases dW r)
  |(cases cX r)
  |(cases aX r)
  |(cases bT r)
 all_goals first
  |(cases dW r')
  |(cases cX r')
  |(cases aX r')
  |(cases bT r')
 all_goals simp[Xd,Eo]
def a7m{K:zT!}{H:Hp}:∀{ds:b_} {vs:k!},ds.all Kh=true->Am K H ds vs->vs.all Mt=true
 |[],vs,_,r=>by cases cU r;rfl
 |d::ds,vs,h,r=>by
  obtain⟨v,t,rfl,r1,r2⟩:=bQ r;rw[LW,HK]at h;rw[LW,HK];exact⟨a7k h.1 r1,a7m h.2 r2⟩
def a7l{K:zT!}{H:Hp}(L:Kh x=true)(rx:Ar K H x v):∀{ds:b_} {vs:k!},ds.all Kh=true->Am K H ds vs->CJ v vs=ds.any λd=>Eo d x
 |[],vs,_,r=>by cases cU r;rfl
 |d::ds,vs,h,r=>by
  obtain⟨w,t,rfl,r1,r2⟩:=bQ r;rw[LW,HK]at h;have ih:=a7l L rx h.2 r2;unfold CJ at ih ⊢;rw[KQ,KQ,ih,c4k h.1 L r1 rx]
def Zm:D->Option aF_
 |.tup xs=>some xs
 |.lst xs=>some xs
 |_=>none
def Ul(neg:Bool):D->D->Option D:=λx y=>(Zm y).bind λds=>if Kh x&&ds.all Kh then some wQ_ else none
def d0y{K:zT!}{neg:Bool}:Ic K (EC K neg) (Ul neg):=by
 show"!0";show"!G"
 .rename_i h;rw[HK]at h;cases e;have fin:∀{p:xh!} {vs:k!},(Et K H p vs\/Fz K H p vs)->Am K G ds vs->y=V.ref p->EC K neg x y H Q:=λ{p vs} q r ey=>by
   refine⟨p,vs,ey,q,a7k h.1 rx,a7m h.2 r,?_⟩;rw[a7l h.1 rx h.2 r];show"!o"
  cases dy<;>first|(cases e1;done)|skip
  .cases e1;obtain⟨p,vs,ey,q,r⟩:=bN ry;exact fin (.inr j3_) r ey
  .cases e1;obtain⟨p,vs,ey,q,r⟩:=bJ ry;exact fin (.inl (sub.seq q)) r ey
 .cases e
structure Ub(X:Cx)(x:Str)(bn:aP!):Prop where
 ex:∃(ad:xh!) (kvs:nF!) (vs:List wR!),X.mg x=some j4!/\ot!=false/\(∀h:Heap,X.K.In h->h.DictOf (mixKind X.prog X.w) ad vs)/\KV kvs vs/\
  (∀y,Ni kvs ec_=none↔bn.lookup y=none)/\∀y d,bn.lookup y=some d->∃v,Ni kvs ec_=some v/\∀H,Ar X.K H d v
def Xx(bn:aP!)(neg:Bool)(f:d_):Ad->Option D:=λρ=>(ag!).bind λd=>match d with|.str y=>some (.bl (if neg then !(ot_).isSome else(ot_).isSome))|_=>none
def Vj(bn:aP!)(f:d_):Ad->Option D:=λρ=>(ag!).bind λd=>match d with|.str y=>bn.lookup y|_=>none
def c4u{x:Str}{bn:aP!}(hd:Ub X x bn)(hg:R!)(ha:Q_)(bu:BQ a)(be:F!:=by decide):DE X own (.Subscript dk! a pos) (Vj bn fa):=by
 show"#E";refine eE (t:=λZ H Q=>tD X.K own fa Z H λv H1=>∃y u,v=.str y/\Ni kvs ec_=some u/\Q u H1) wS! λZ G H Q ρ d er e k=>?_
 .refine c2a PySem.F.slot_dict_getitem.lookup bu (jX I hg j0 (cZ wS_ λv s1 ⟨y,H1,I1,r1,z,u,hz,hu,q1⟩=>?_) be);subst hz;have dd:=yj _ I1.kIn;obtain⟨w',hw,ao⟩:=Ny.some_of (v:=u) (o:=valueAt vs ou_) (by rw[<-hu];exact yk.val ou_);have ty:s1.TypeIs j4! "dict":=by
   obtain⟨o,es,ep,B,Y,_⟩:=dd;exact⟨o,B,Y.1⟩
  exact⟨ty,wpAny_getItem_of (knd:=wT_) (k:=ov!) wU! dd.mapOf hw ⟨u,H1,I1.tok _,ao,q1⟩⟩
 .obtain⟨x,e1,e⟩:=GG.mp e;cases x<;>first|(cases e;done)|skip
  rename_i y;obtain⟨v,hv,hr⟩:=hs y d e;refine⟨G,ρ,_,er,e1,λw G1 H1 s1 r1=>?_⟩;cases bT r1;exact⟨y,v,rfl,hv,k _ G1 H1 s1 (hr G1)⟩
def Ok(P:xR!)(w:xM!)(K:zT!)(mg:B_)(base:Heap)(k:Nat)(x:Str)(ps:j_)(g:W_):Prop:=
 ∃σ fd,Fk P w K mg base Pk k σ fd ps jW_/\Ez K fd ps []/\mg x=some bO!/\W.keepIn K bO!=true
def aR{k:Nat}{ps:j_}{g:W_}{x:Str}(F:wV_)(hr:b5!)(hg:R!)(ha:gV!)(ak:v2_)
  (hn:v3_:=by rfl)(be:F!:=by decide)(he:ak_:=by rfl)(av:aT!:=by rfl):
  DE X own bg! jH!:=by
 obtain⟨σ,fd,B,Y,h3,h4⟩:=F;exact c4w B hr hg h3 h4 Y ha hn ak be he av
def Yx(P:xR!)(w:xM!)(K:zT!)(mg:B_)(base:Heap)(k n:Nat)(bn:ov_):Prop:=
 ∀σ g,bn σ=some g->∃fd ps,S!=n/\Fk P w K mg base Pk k σ fd ps jW_/\Ez K fd ps []/\W.keepIn K bO!=true
def Ol(bn:ov_)(i:Nat)(fs:am!):Ad->Option D:=λρ=>(Aa i ρ).bind λd=>match d with|.fn σ=>(bn σ).bind λg=>(fb!).bind g|_=>none
def c0x{k n j:Nat}{bn:ov_}{x:Str}(F:Yx X.prog X.w X.K X.mg X.base k n bn)(hr:b5!)(ha:gV!)(ak:v4!)
  (hj:j∉own:=by decide)(hN:vd!:=by rfl)(hv:cU_:=by first|exact Or.inl rfl|exact Or.inr a_|exact Or.inr bl_)(be:F!:=by decide)(bv:cV!:=by decide)
  (he:ak_:=by rfl)(av:aT!:=by rfl):
  DE X own bg! (Ol bn j fs):=⟨by
 intro J s Z H Q I h;obtain⟨G,ρ,d,er,e1,kk⟩:=h;obtain⟨z,e2,e1⟩:=GG.mp e1;cases z<;>first|(cases e1;done)|skip
 rename_i σ;obtain⟨g,e3,e1⟩:=GG.mp e1;obtain⟨ds,e4,e1⟩:=GG.mp e1;obtain⟨fd,ps,li,F1,F2,F3⟩:=F σ g e3;obtain⟨v,B,Y⟩:=er.at_ j _ (join_some e2) hj;cases fA Y;refine KY (cZ (nQ hN hv be bv J s Z H (λu H'=>u=.ref σ/\H'=H) I ⟨_,B,rfl,rfl⟩) λu s1 ⟨y,H1,I1,r1,hy,hH⟩=>?_);subst hy hH;cases r1;refine W.callWith_K (h₀:=X.base) I1.ok.mod.kin F3 (cZ (ha.ok pos J s1 Z H1 _ I1 ⟨G,ρ,ds,er,e4,λvs G2 H2 s2 r2=>(?_:(λvs H2=>Xk X.K ps.length g vs H2 Q E0) vs H2)⟩) λus s2 ⟨vs,H2,I2,r2,q2⟩=>th_) he av
 .exact⟨by rw[<-aI r2,ak ρ ds e4,li],G2,ds,d,s2.sub,r2,e1,λv G3 H3 s3 r3=>kk v G3 H3 gQ_ r3⟩
 .exact a1e (dvs:=[]) (ds:=[]) F1 hr F2 .nil vN I2 r2 (by rw[HP];exact q2)⟩
def CU(x:Str):It:=⟨wW_,λi H v H'=>H'=H/\∃c,x.cps[i]?=some c/\v=.str al!,wX!⟩
def Zo(f:d_):Ad->Option aF_:=λρ=>(ag!).bind λd=>match d with|.str x=>some wX_|_=>none
def c3z{K:zT!}{G1:Hp}{x:Str}:Yf K (CU x) wX_ G1:=by intro i G' H' s1 s2;refine⟨cG!,λhi=>by rw[GX,IR]at hi;exact NS hi.symm⟩;rw[HY]at hd;obtain⟨c,hc,rfl⟩:=GR.mp hd;rw[KR]at hc;refine wY!;obtain⟨e1,c',a7,e2⟩:=hy;subst e1;rw[hc]at a7;cases a7;subst e2;exact⟨G',jN!,Ar.str⟩
def a4p{K:zT!}{x:Str}{St':dI_}(hd:wY_)
  (W:∀A':Around,ow_=none->Walks P w A' it [it] [it] x.cps.size (SignAt x) St')(XU:∀(A:xz!) (i:Nat) (s:zS!) (Q:p!) (E:p!),St' i s.heap->Q bZ_ s->wpAny L! A (pyIter bZ_) Q E s):
  Qx P w K g6_ (CU x) [it] it wZ! where
 mem:=by simp
 obj:=λi h st b O=>by
  have e:b=it:=by simpa using O
  subst e;exact hd i h st.2
 keep:=λi h h' st k=>⟨st.1,by
  have Wd:=W callerA rfl;exact Wd.frame i h h' st.2 λb O o e=>k b O o e⟩
 item:=by
  show"!/";show"!2";refine(W X.A bu_).item i s _ _ hg st.2 λv h' tk hv h1 kk=>?_;obtain⟨cc,u,jz,rfl⟩:=hv;show"!_";exact⟨_,rfl,GH ⟨.str ⟨#[cc]⟩,H,I1,ox!,⟨rfl,cc,jz,rfl⟩,⟨hg,h1⟩,il_⟩⟩
 done:=by
  show"!/";show"!2";show"#C";exact(W X.A bu_).done s _ _ st.2 λh' tk kk=>⟨rfl,I.turned l5_ f0 f1 f3 f4 f5⟩
 self:=λA i s Q E st h=>XU A i s Q E st.2 h
def c6v{tl:TE}(hl:PE X a tl):PI X g6_ a (λZ H R=>tl Z H λv H1=>∃x,v=.str x/\R (CU x) H1):=by
 intro J s Z H R I h;refine cZ xO_ λv s1 ⟨u,H1,I1,r1,x,L,q⟩=>?_;subst L;obtain⟨t,rfl⟩:=r1;have TF:∀(ty:String) (i:Nat) (h:Heap),h.IsStrIter s1.heap.objs.size ty x t i->∃o,h.get? y!=some o/\∀v,o.data≠.cell v:=λty i h st=>by
  show"!T"
 have fin:∀(ob:Obj) (St':dI_),Qx X.prog X.w X.K g6_ (CU x) [y!] s1.heap.objs.size wZ!->St' 0 (s1.heap.push ob)->
   CP X J Z g6_ R (.ref y!) {s1 with heap:=s1.heap.push ob}:=λob St' T st=>by
  refine⟨y!,[y!],_,_,H1,rfl,io!,T,⟨IP _,st⟩,be!,q⟩;have e:b=y!:=by simpa using O
  show"!P"
 cases ha:x.cps.all (·<128)with
 |false=>
  exact wpAny_pyIter_wide ha (fin _ _ (a4p w1! (λA' hA=>Walks.strWide hA _ x t) λA i s Q E st h=>wpAny_pyIter_striter_wide st h) dK!)
 |true=>
  exact wpAny_pyIter_ascii ha (fin _ _ (a4p w1! (λA' hA=>Walks.strAscii hA _ x t) λA i s Q E st h=>wpAny_pyIter_striter_ascii st h) dK!)
def c8w(h:Q_):DI X own g6_ a (Zo fa):=a7q (c6v h.ok) λZ G H R ρ ds er e k=>by
 obtain⟨d,e1,e2⟩:=GG.mp e;cases d with
 |str x=>
  cases e2;refine fe!;cases bT r1;exact⟨x,rfl,k _ G1 H1 s1 c3z⟩
 |_=>cases e2
def yO:∀{ys:j_} {us:h_},Ba w1_ us->StrsAre us ys
 |[],_,.nil=>.nil
 |y::ys,_,.cons r t=>by
  obtain⟨k,rfl⟩:=r;exact .cons y k (yO t)
def AT(K:zT!):V->List V->Hp->VK->Prop:=λx vs H Q=>∃(z:Str) (p:xh!) (ys:j_),x=.str z/\vs=gx_/\Et K H p w1_/\(g8!).sum+M_*dT!<=16777216/\Q w2_ H
def b2p:EL X "str.join" (AT X.K):=by intro J s Z H x xs v us Q I rx r h;obtain⟨z,p,ys,rfl,rfl,hq,hz,q⟩:=h;obtain⟨t,rfl⟩:=rx;obtain⟨u,rfl,r1⟩:=kS r;cases r1;obtain⟨its,rv,pl,_⟩:=I.list hq;exact join_list pl.isList (by simpa using yO rv) hz λt' k=>my_
def Mg:List D->Option (List Str)
 |[]=>some []
 |.str x::r=>(Mg r).map (x::·)
 |_=>none
def vF{K:zT!}{H:Hp}:∀{ds:b_} {vs:k!} {ys:j_},Am K H ds vs->Mg ds=some ys->vs=ys.map V.str
 |[],vs,ys,r,e=>by cases cU r;cases e;rfl
 |d::ds,vs,ys,r,e=>by
  obtain⟨v,t,rfl,r1,r2⟩:=bQ r;cases d<;>first|(cases e;done)|skip
  obtain⟨XV,e1,rfl⟩:=GR.mp e;cases bT r1;rw[vF r2 e1];rfl
def Lj:D->D->Option D
 |.str z,.lst xs=>(Mg xs).bind λys=>if(g8!).sum+M_*dT!<=big then some w2_ else none
 |_,_=>none
def Rt(fo fa:d_):Ad->Option D:=λρ=>(fo ρ).bind λx=>(d5!).bind λy=>Lj x y
def b3j{fo:d_}{ag ab:Pos}(ho:DE X own o fo)(ha:Q_)
  (df:attributeBase o "join" X.env cZ_=eval o X.env:=by rfl)
  (gj:((oy_).all cy!&&(cy_).all cz!
   &&decide oz!)=true:=by rfl)
  (dh:cx_:=by rfl) (hs:jN_:=by rfl) (gk:g1!:=by rfl):
  DE X own (.Call (.Attribute o "join" ag) [a] [] ab) (Rt fo fa):=
 eE (zC PySem.F.plainAttrs_str PySem.F.slot_str_join PySem.F.type_str_join b2p ho.ok w3_ df gj dh hs gk) λZ G H Q ρ d er e k=>by
  show"!;";obtain⟨y,e2,e⟩:=GG.mp e;unfold Lj at e;show"!6"
  .obtain⟨ys,e3,e⟩:=GG.mp e;show"!6"
   .show"!?";refine fe!;cases bT r1;refine⟨rfl,G1,ρ,_,di_,e2,w4_⟩;obtain⟨p,vs,rfl,q,rr⟩:=bJ r2;have:=vF rr e3;subst this;exact⟨_,p,ys,rfl,rfl,s2.sub.seq q,HR hl c!,k _ G2 H2 dj_ Ar.str⟩
   .cases e
  .cases e
end
section
variable{prog:xR!}{w:xM!}{A:xz!}{E:Value->Shared->Prop}{s:zS!}
def a1v{n:Nat}{xs:aa!}{Q:p!}(g1:w5_)(g2:w6!)(g3:xs[n]?=some v)
  (k:∀h',h'.IsTupleIter jt tt bC_->Heap.SameBut jt s.heap h'->Q v {s with heap:=h'}):wpAny q_ A w6_ Q E s:=by
 show"!8";show"![";refine GF (QL eo ed c_ (GH ⟨v,rfl,GH (k _ ?_ ed!)⟩));exact⟨_,MC _ eo (Obj.isFreed_of_fields (OJ ed _)),(xa!).trans ec,by rw[OJ ed];simp[rawInt]⟩
def vU{n:Nat}{xs:aa!}{Q:p!}(hh:eS!)(g1:w5_)(g2:w6!)(g3:xs[n]?=none)
  (k:∀h' e,Heap.ExtBut jt s.heap h'->(∃o,h'.get? e=some o/\o.cls=.type "StopIteration")->E (.ref e) {s with heap:=h'}):wpAny q_ A w6_ Q E s:=by
 show"!8";show"![";refine GF (JZ (GF (QL eo ed c_ ?_)));refine GF ?_;simp only[newExc,newTuple];refine GF (JN ?_ j6!);refine GF (m:=xa_) (wpAny_of_eq (a:=dz!) xb! ?_);refine JN ?_ j6!;simp only[raiseNew];refine GF xb_
 first|rw[xc!]|rw[hh]
 refine GF xc_;exact k _ _ xd! oA!
def bX{h h':Heap}{n:Nat}(x:h.IsTupleIter aa tt n)(hs:Heap.ExtBut bb h h')(ne:aa≠bb):h'.IsTupleIter aa tt n:=let⟨ob,eo,r⟩:=x;⟨ob,hs _ _ ne eo,r⟩
def a8j{TI TO:xh!}{k1 k2:Nat}{xs ys:aa!}{Q:p!}(D:j7!)
  (gz:j7_)(gI:j8!)(gO:j8_)
  (g1:j9!)(g2:j9_)(ij:g8_)(ip:g9!)(gx:xd_)(gy:xe!)
  (kk:∀h',IsZip h' z TI TO (rawInt o_)->IsPair h' TO x y->h'.IsTupleIter i1 l1 (k1+1)->h'.IsTupleIter i2 l2 (k2+1)->IsPair h' s.heap.objs.size x y->
   ka!->Q c1_ {s with heap:=h'}):
  wpAny q_ A xe_ (λfin s'=>∃v,fin=.done (.ret v)/\Q v s') E s:=by
 show"!v";show"!C";refine GF xi!
 replace lj:IsZip B z TI TO .ellipsis:=lj
 refine GF ?_;simp only[NG,OX,LQ,NY];refine GF ka_;refine GF xj_;have sj:IsPair Y TO p q:=bi.extBut _ _ D.TOi1 xk!;refine GF xk_;refine GF xl!
 replace vw:IsPair h3 TO x q:=vw
 refine GF (PF ab_);refine GF ka_;refine GF (a1v xl_ xm! gy λh4 XW jk=>GH ?_);have TJ:IsPair h4 TO x q:=jk.extBut _ _ D.TOi2 vw;refine GF (LS TJ rfl ?_);refine GF (QG TJ λh5 vx lm=>?_)
 replace vx:IsPair h5 TO x y:=vx
 refine GF (PF (GH ab_));refine GF (LS vx rfl ?_);refine GF (wpAny_newTuple ?_);have sz:kb!=o_:=by rw[lm.1,jk.1,c9.1,bi.1,b6.1]
 have TK:IsZip h5 z TI TO .ellipsis:=lm.extBut _ _ D.TOz.symm (jk.extBut _ _ D.i2z.symm xm_);have XX:∀c ob,c≠z->c≠TO->c≠i1->c≠i2->s.heap.get? c=some ob->h5.get? c=some ob:=λc ob c1 c2 c3 c4 e=>lm.extBut _ _ c2 (jk.extBut _ _ c4 (c9.extBut _ _ c2 (bi.extBut _ _ c3 (b6.extBut _ _ c1 e))));have XY:h5.IsTupleIter i1 l1 (k1+1):=bX (bX (bX TH c9.extBut D.TOi1.symm) jk.extBut D.i12) lm.extBut D.TOi1.symm;have XZ:h5.IsTupleIter i2 l2 (k2+1):=bX XW lm.extBut D.TOi2.symm;have TL:z<kb!:=HI TK;refine GF ?_;unfold Builtin.SmallTypes.ownedTupleHandOut;have X0:IsZip (h5.push {cls:=.type "tuple",data:=.seq #[x,y]}) z TI TO .ellipsis:=GK _ TK;refine GF (LX X0 c_ λh7 yo TM=>?_)
 replace yo:IsZip h7 z TI TO (rawInt kb!):=yo
 refine LX yo c_ λh8 vy TN=>?_
 replace vy:IsZip h8 z TI TO (rawInt kb!):=vy
 have up:∀c ob,c≠z->h5.get? c=some ob->h8.get? c=some ob:=λc ob c1 e=>TN.extBut _ _ c1 (TM.extBut _ _ c1 (GK _ e));have TQ:IsPair h8 h5.objs.size x y:=TN.extBut _ _ (ND TL) (TM.extBut _ _ (ND TL) oA_);rw[sz]at vy TQ;refine GH oB!;rw[sz];obtain⟨vz,X1,r1⟩:=XY;obtain⟨pz,X2,r2⟩:=XZ;exact kk h8 vy (up _ _ D.TOz vx) ⟨vz,up _ _ D.i1z X1,r1⟩ ⟨pz,up _ _ D.i2z X2,r2⟩ TQ λc ob c1 c2 c3 c4 e=>up c ob c1 (XX c ob c1 c2 c3 c4 e)
def b3s{TI TO:xh!}{k1 k2:Nat}{xs ys:aa!}{Q:Fin->Shared->Prop}(hh:eS!)(D:j7!)
  (gz:j7_)(gI:j8!)(gO:j8_)
  (g1:j9!)(g2:j9_)(ij:g8_)(ip:g9!)(ge:xn_)
  (kk:∀h' e,ka!->(∃ob,h'.get? e=some ob/\ob.cls=.type "StopIteration")->E (.ref e) {s with heap:=h'}):
  wpAny q_ A xe_ Q E s:=by
 show"!v";show"!C";refine GF xi!
 replace lj:IsZip B z TI TO .ellipsis:=lj
 refine GF ?_;simp only[NG,OX,LQ,NY];refine GF ka_;cases gx:xs[k1]? with
 |none=>
  refine GF (vU hh xi_ xj! gx λY e bi he=>?_);obtain⟨oe,nj,sk⟩:=he;have TR:IsZip Y z TI TO .ellipsis:=bi _ _ D.i1z.symm lj;have yp:e≠z:=λx=>by subst x;rw[TR]at nj;cases nj;simp at sk
  refine LX TR c_ λh3 _ c9=>kk h3 e (λc ob c1 _ c3 _ x=>c9.extBut _ _ c1 (bi _ _ c3 xo!)) ⟨oe,c9.extBut _ _ yp nj,sk⟩
 |some x=>
  have gy:ys[k2]?=none:=by
   obtain h|h:=ge
   .rw[gx]at h;cases h
   .exact h
  refine GF xj_;have sj:IsPair Y TO p q:=bi.extBut _ _ D.TOi1 xk!;refine GF xk_;refine GF xl!;refine GF (PF ab_);refine GF ka_;refine GF (vU hh xl_ xm! gy λh4 e jk he=>?_);obtain⟨oe,nj,sk⟩:=he;have TU:IsZip h4 z TI TO .ellipsis:=jk _ _ D.i2z.symm xm_;have yp:e≠z:=λx=>by subst x;rw[TU]at nj;cases nj;simp at sk
  refine LX TU c_ λh5 _ lm=>kk h5 e (λc ob c1 c2 c3 c4 x=>lm.extBut _ _ c1 (jk _ _ c4 (c9.extBut _ _ c2 (bi.extBut _ _ c3 xo!)))) ⟨oe,lm.extBut _ _ yp nj,sk⟩
def a9f{TI TO:xh!}{k1 k2:Nat}{xs ys:aa!}{p:xL!}{Q:fj_}(D:j7!)
  (gz:j7_)(gI:j8!)(gO:j8_)
  (g1:j9!)(g2:j9_)(ij:g8_)(ip:g9!)(gx:xd_)(gy:xe!)
  (kk:∀h',IsZip h' z TI TO (rawInt o_)->IsPair h' TO x y->h'.IsTupleIter i1 l1 (k1+1)->h'.IsTupleIter i2 l2 (k2+1)->IsPair h' s.heap.objs.size x y->
   ka!->Q (some c1_) {s with heap:=h'}):
  wpAny q_ A (pyNext g9_) Q E s:=by
 have gT:s.TypeIs g9_ "zip":=xo_;unfold pyNext;exact GF (NV (IW (name:=j5_) gT QE (IE QE gT xp!
  (a8j D gz gI gO g1 g2 ij ip gx gy λh' a1 a2 a3 a4 a5 a6=>GH (kk h' a1 a2 a3 a4 a5 a6)) xp_)))
def xT{TI TO:xh!}{k1 k2:Nat}{xs ys:aa!}{p:xL!}{Q:fj_}(hh:eS!)(D:j7!)
  (gz:j7_)(gI:j8!)(gO:j8_)
  (g1:j9!)(g2:j9_)(ij:g8_)(ip:g9!)(ge:xn_)
  (kk:∀h',ka!->Q none {s with heap:=h'}):wpAny q_ A (pyNext g9_) Q E s:=by
 have gT:s.TypeIs g9_ "zip":=xo_;unfold pyNext;refine GF (NV (IW (name:=j5_) gT QE (IE QE gT xp!
  (b3s hh D gz gI gO g1 g2 ij ip ge λh' e hk he=>?_) xp_)))
 obtain⟨ob,ho,hc⟩:=he;exact GF (wpAny_isInstance (T:=xq!) (b:=true) ⟨ob,ho,hc⟩ isSubtype_stop (GH (kk _ hk)))
abbrev BZ(h:Heap)(l1:xh!):Heap:=h.push {cls:=.type "tuple_iterator",data:=.fields #[.ref l1,.int 0 0]}
abbrev BY(h:Heap)(l1 l2:xh!):Heap:=(BZ h l1).push {cls:=.type "tuple_iterator",data:=.fields #[.ref l2,.int 0 0]}
abbrev BX(h:Heap)(l1 l2:xh!):Heap:=(BY h l1 l2).push {cls:=.type "tuple",data:=.seq #[.ref cQ!,.ref (BZ h l1).objs.size]}
abbrev BW(h:Heap)(l1 l2:xh!):Heap:=(BX h l1 l2).push {cls:=.type "tuple",data:=.seq #[.none,.none]}
abbrev AA(h:Heap)(l1 l2:xh!):Heap:=(BW h l1 l2).push {cls:=.type "zip",data:=.fields #[.none,.bool false,.bool false,.ref (BY h l1 l2).objs.size,.ref (BX h l1 l2).objs.size]}
def a9z(l1 l2:xh!)(xs ys:aa!):
  Meets (Builtin.«zip.__new__» ⟨[.type "zip",.ref l1,.ref l2],[]⟩) (λ_ R s=>s.heap.IsTuple l1 xs/\s.heap.IsTuple l2 ys/\R (.ok (.ret (.ref (oB_).objs.size))) {s with heap:=AA s.heap l1 l2}):=
 .of_wp λprog w A R s h=>by
  obtain⟨hp,g,d,tk,os⟩:=s;obtain⟨ij,ip,h⟩:=h;have hsub:=sub_zip;have X3:Heap.IsTuple (Shared.heap hb!) l1 xs:=ij;have X4:Heap.IsTuple (Shared.heap ⟨hp.push {cls:=.type "tuple_iterator",data:=.fields #[.ref l1,.int 0 0]},g,d,tk,os⟩) l2 ys:=let⟨ob,eo,r⟩:=ip;⟨ob,GK _ eo,r⟩
  wp_walk using wpAny_pyIter_tuple X3,wpAny_pyIter_tuple X4
  exact⟨_,rfl,h⟩
def c1k{xs ys:aa!}{Q:p!}(ij:g8_)(ip:g9!)
  (kk:∀h',IsZip h' (o_+4) (o_+2) (o_+3) .none->IsPair h' (o_+2) c1_ (.ref ab!)->
   IsPair h' (o_+3) .none .none->h'.IsTupleIter s.heap.objs.size l1 0->h'.IsTupleIter ab! l2 0->(∀c ob,s.heap.get? c=some ob->h'.get? c=some ob)->Q (.ref (o_+4)) {s with heap:=h'}):
  wpAny q_ A (call oC! [.ref l1,.ref l2]) Q E s:=by
 refine callType_new F.called_zip c! (F.typeCall_zip_2 _ _) (F.newCall_zip_2 _ _) (λobj=>F.args_object_init_3 obj _ _) F.entry_zip_new (a9z l1 l2 xs ys) ⟨ij,ip,?_⟩;have z1:(xq_).objs.size=o_+1:=MU ..;have z2:(AT!).objs.size=o_+2:=by rw[MU,z1]
 have z3:(xs_).objs.size=o_+3:=by rw[MU,z2]
 have z4:(oB_).objs.size=o_+4:=by rw[MU,z3]
 have y5:(hb_).get? (oB_).objs.size=some _:=HG _ rfl;have y4:(hb_).get? (xs_).objs.size=some _:=GK _ oA_;have y3:(hb_).get? (AT!).objs.size=some _:=GK _ oC_;have y2:(hb_).get? (xq_).objs.size=some _:=GK _ (GK _ oC_);have y1:(hb_).get? o_=some _:=GK _ (GK _ (GK _ oC_));show _/\_;rw[z2,z3,z4]at y5;rw[z1,z2]at y3;rw[z3]at y4;rw[z1]at y2;rw[z4];exact⟨⟨_,y5,rfl⟩,kk _ y5 y3 y4 ⟨_,y1,rfl,rfl⟩ ⟨_,y2,rfl,rfl⟩ λc ob x=>GK _ (GK _ (GK _ (GK _ (GK _ x))))⟩
end
def CT(K:zT!)(a b:xh!):It:=
 ⟨λi H=>∃xs ys x y,Fz K H a xs/\Fz K H b ys/\xs[i]?=some x/\ys[i]?=some y,
   λi H v H'=>∃T,v=.ref T/\H T=none/\∀xs ys,Fz K H a xs->Fz K H b ys->∃x y,xs[i]?=some x/\ys[i]?=some y/\H'=upd H T (.tup [x,y]),
   λi H=>∃xs ys,Fz K H a xs/\Fz K H b ys/\(i_<=i\/M_<=i)⟩
def b3x{w:xM!}{K:zT!}{fm:bs_}{n1:Nat}{tp:Pos}{a b TI TO:xh!}(D:ZipApart z TI TO i1 i2 a b):
  Qx P w K do_ (CT K a b) [z,TI,TO,i1,i2] z (λi h=>IsZip h z TI TO .none/\IsPair h TI (.ref i1) (.ref i2)/\(∃p q,IsPair h TO p q)/\h.IsTupleIter i1 a i/\h.IsTupleIter i2 b i) where
 mem:=by simp
 obj:=λi h st c hc=>by
  obtain⟨s1,s2,⟨p,q,s3⟩,⟨o4,s4,c4,d4⟩,⟨o5,s5,c5,d5⟩⟩:=st;simp only[GJ,HS,JO]at hc;obtain rfl|rfl|rfl|rfl|rfl:=hc
  .exact⟨_,s1,oE!⟩
  .exact⟨_,s2,oE!⟩
  .exact⟨_,s3,oE!⟩
  .exact⟨o4,s4,λv y=>by rw[d4]at y;cases y⟩
  .exact⟨o5,s5,λv y=>by rw[d5]at y;cases y⟩
 keep:=λi h h' st k=>by
  obtain⟨s1,s2,⟨p,q,s3⟩,⟨o4,s4,r4⟩,⟨o5,s5,r5⟩⟩:=st;exact⟨k z c_ _ s1,k TI c_ _ s2,⟨p,q,k TO c_ _ s3⟩,⟨o4,k i1 c_ _ s4,r4⟩,⟨o5,k i2 c_ _ s5,r5⟩⟩
 item:=by
  intro X hP hw hK hc i J s Z H E I hf st hg;subst hP hw hK;obtain⟨xs,ys,x,y,qa,qb,L,hy⟩:=hg;obtain⟨s1,s2,⟨p,q,s3⟩,s4,s5⟩:=st;obtain⟨ia,ra,ta,za⟩:=I.tuple qa;obtain⟨ib,rb,tb,zb⟩:=I.tuple qb;obtain⟨u,hu,ru⟩:=ra.get L;obtain⟨v,hv,rv⟩:=rb.get hy;refine a9f D s1 s2 s3 s4 s5 ta tb (x:=u) (y:=v) ij_ iY_ λh' a1 a2 a3 a4 a5 a6=>?_;refine⟨_,rfl,wpAny_letOwnedTupleGo_zip (s:=ik!) a1 λY b1 bi=>?_⟩;have p5:Heap.SameBut z h' Y:=bi;have neT:∀c o,s.heap.get? c=some o->o_≠c:=λc o e=>ND cS!;have fz:=hf z c_;have fO:=hf TO c_;have f1:=hf i1 c_;have f2:=hf i2 c_;have I1:Inv X J Z H {s with heap:=Y,toks:=s.toks}:=by
   have pf:∀(c:xh!),c∈fk!->H c=none:=λc hc=>by
    simp only[GJ,HS,JO]at hc;obtain rfl|rfl|rfl|rfl:=hc
    .exact fz.1
    .exact fO.1
    .exact f1.1
    .exact f2.1
   have kp:∀c o,c∉fk!->s.heap.get? c=some o->Y.get? c=some o:=λc o hc e=>by
    show"#D";exact p5.extBut _ _ hc.1 (a6 c o hc.1 hc.2.1 hc.2.2.1 hc.2.2.2 e)
   refine I.step (g':=s.gens) (d':=s.drawn) (ch:=fk!) fk_ oE_ oF! hY! oF_ hY_ hZ! oG! hZ_ hc_ I.bare
   .simp only[GJ,HS,JO]at hc;obtain rfl|rfl|rfl|rfl:=hc
    .exact xx!
    .exact xx_
    .exact xy!
    .exact xy_
   .show"!a"
   .refine(oH!).stay oH_ oI! λ_ _ e'=>e';have hn:=pf d hm;obtain rfl|hd:=hd
    .rw[hn]at e;cases e
    .rw[hn]at hd;cases hd
  have sn:H o_=none:=I.hok.fresh y_;have eT:Y.get? o_=some {cls:=.type "tuple",data:=.seq #[u,v]}:=p5.extBut _ _ (neT z _ s1) a5;have I2:Inv X J Z (upd H s.heap.objs.size (.tup [x,y])) {s with heap:=Y,toks:=s.toks}:=by
   have ne:∀c o,H c=some o->c≠o_:=λc o e=>cD e sn;have X5:∀p∈X.pn++J,p.1≠o_:=λp hp=>IA rE_;refine Inv.step (s:={s with heap:=Y,toks:=s.toks}) (g':=s.gens) (d':=s.drawn) (t':=s.toks) (h':=Y) (ch:=[o_]) I1 fk_ xA_ xB! xB_ xC!
    (xD!) xD_ xE! ns! hc_ I1.bare
   .have e:c=o_:=by simpa using hc
    subst e;exact⟨.inr I.sz,ND I.lt,λx c h=>(λz=>by obtain⟨v,o,ho,_⟩:=I.cell x c h;rw[z]at ho;exact absurd hU! dB!),X5⟩
   .rw[ns_];exact n
   .by_cases O:c=o_
    .show"!w";exact⟨by show 2<=sizeLine;rw[IN];decide,[u,v],.cons ru (.cons rv .nil),⟨_,eT,rfl,_,rfl⟩⟩
    .rw[aV O]at e;exact(xF_).stay nt! xG! λd xs q=>by rw[oJ_];exact q
  refine⟨c8_,_,I2,rfl,⟨_,rfl,sn,λiq XV j8 sv=>⟨x,y,?_,?_,rfl⟩⟩,⟨b1,p5.extBut _ _ D.TIz (a6 TI _ D.TIz D.TITO D.TIi1 D.TIi2 s2),⟨u,v,p5.extBut _ _ D.TOz a2⟩,bX a3 p5.extBut D.i1z,bX a4 p5.extBut D.i2z⟩,ke_⟩
  .rw[I.tuple_inj j8 qa];exact L
  .rw[I.tuple_inj sv qb];exact hy
  .have yq:=(hf c hc).1;have a7:∃o,s.heap.get? c=some o:=by
    obtain⟨o4,t4,_⟩:=s4;obtain⟨o5,t5,_⟩:=s5;simp only[GJ,HS,JO]at hc;obtain rfl|rfl|rfl|rfl|rfl:=hc
    .exact⟨_,s1⟩
    .exact⟨_,s2⟩
    .exact⟨_,s3⟩
    .exact⟨_,t4⟩
    .exact⟨_,t5⟩
   obtain⟨o,ho⟩:=a7;rw[aV (GN (neT c o ho))];exact yq
 done:=by
  intro X hP hw hK hc i J s Z H E I hf st hg;subst hP hw hK;obtain⟨xs,ys,qa,qb,X6⟩:=hg;obtain⟨s1,s2,⟨p,q,s3⟩,s4,s5⟩:=st;obtain⟨ia,ra,ta,za⟩:=I.tuple qa;obtain⟨ib,rb,tb,zb⟩:=I.tuple qb;have l1:=ra.length;have l2:=rb.length;refine xT bu_ D s1 s2 s3 s4 s5 ta tb (by
   obtain h|h:=X6
   .left;simp;omega
   .right;simp;omega) λY a6=>m_
  have fz:=hf z c_;have fO:=hf TO c_;have f1:=hf i1 c_;have f2:=hf i2 c_;have pf:∀(c:xh!),c∈fk!->H c=none:=λc hc=>by
   simp only[GJ,HS,JO]at hc;obtain rfl|rfl|rfl|rfl:=hc
   .exact fz.1
   .exact fO.1
   .exact f1.1
   .exact f2.1
  have kp:∀c o,c∉fk!->s.heap.get? c=some o->Y.get? c=some o:=λc o hc e=>by
   show"#D";exact a6 c o hc.1 hc.2.1 hc.2.2.1 hc.2.2.2 e
  refine I.step (g':=s.gens) (d':=s.drawn) (t':=s.toks) (ch:=fk!) fk_ oE_ oF! hY! oF_ hY_ hZ! oG! hZ_ hc_ I.bare
  .simp only[GJ,HS,JO]at hc;obtain rfl|rfl|rfl|rfl:=hc
   .exact xx!
   .exact xx_
   .exact xy!
   .exact xy_
  .show"!a"
  .refine(oH!).stay oH_ oI! λ_ _ e'=>e';have hn:=pf d hm;obtain rfl|hd:=hd
   .rw[hn]at e;cases e
   .rw[hn]at hd;cases hd
 self:=λA i s Q E st h=>wpAny_pyIter_zip st.1 h
section
variable{X:Cx}{own:List Nat}{e a b c o i tg:Expr}{es fm:List Expr}{pos p2 p tp:Pos}{f fa fb fc fe:Ad->Option D}{n1:Nat}
def c2v{ta:TA}(hg:Gl X "zip")(hm:xH_)(hv:xI!)(ha:PA X af! ta)(hs:xI_:=by rfl)(av:xJ!:=by rfl):
  PI X do_ xJ_ (λZ H R=>ta Z H λvs H1=>∃x y xs ys,vs=[.ref x,.ref y]/\Fz X.K H1 x xs/\Fz X.K H1 y ys/\R (CT X.K x y) H1):=by
 intro J s Z H R I h;refine Call_ (iV I hg hm hv (JB mb_ hs av));obtain⟨x,y,xs,ys,rfl,qx,qy,q⟩:=q1;obtain⟨u,u',rfl,ru,ap⟩:=b1c r1;cases ru;cases ap;obtain⟨ia,ra,TV,za⟩:=I1.tuple qx;obtain⟨ib,rb,TW,zb⟩:=I1.tuple qy;have lx:x<y!:=by obtain⟨ob,eo,_⟩:=TV;exact HI eo
 have ly:y<y!:=by obtain⟨ob,eo,_⟩:=TW;exact HI eo
 refine c1k TV TW λh' a1 a2 a3 a4 a5 a6=>?_;refine wpAny_pyIter_zip a1 ?_;have I2:Inv X J Z H1 {s1 with heap:=h',toks:=s1.toks}:=I1.kept (t':=s1.toks) a6;have D:ZipApart (y!+4) (y!+2) (y!+3) s1.heap.objs.size (y!+1) x y:=by
  constructor<;>(intro z;have z':@Eq Nat _ _:=z;have l1:@LT.lt Nat _ x _:=lx;have l2:@LT.lt Nat _ y _:=ly;omega)
 refine⟨_,_,_,CT X.K x y,H1,rfl,I2,b3x D,⟨a1,a2,⟨_,_,a3⟩,a4,a5⟩,ke_,q⟩;have jl:y!<=c:=by
  simp only[GJ,HS,JO]at hc;obtain rfl|rfl|rfl|rfl|rfl:=hc<;>omega
 exact I1.fpOk jl (I1.hok.fresh jl)
def Kl:List D->List D->List D
 |x::xs,y::ys=>.tup [x,y]::Kl xs ys
 |_,_=>[]
def Zn(fa fb:d_):Ad->Option aF_:=λρ=>(d5!).bind λx=>(gP_).bind λy=>match x,y with|.tup xs,.tup ys=>some kg!|_,_=>none
def a4o:∀(xs ys:b_) (n:Nat) (d:D),kg![n]?=some d->∃x y,xs[n]?=some x/\ys[n]?=some y/\d=.tup [x,y]
 |[],_,n,d,h=>by simp[Kl]at h
 |_::_,[],n,d,h=>by simp[Kl]at h
 |x::xs,y::ys,0,d,h=>by
  simp[Kl]at h;exact⟨x,y,rfl,rfl,h.symm⟩
 |x::xs,y::ys,n+1,d,h=>by
  obtain⟨u,v,B,Y,h3⟩:=a4o xs ys n d (by simpa[Kl]using h);exact⟨u,v,hN!,by simpa using Y,h3⟩
def a4n:∀(xs ys:b_),i_<=(kg!).length\/M_<=(kg!).length
 |[],ys=>.inl cI_
 |_::_,[]=>.inr cI_
 |x::xs,y::ys=>by
  obtain h|h:=a4n xs ys
  .left;simp[Kl];exact h
  .right;simp[Kl];exact h
def c3y{K:zT!}{G1:Hp}{es:b_}(qa:Fz K G1 x vs)(qb:Fz K G1 y ws)(ra:Am K G1 ds vs)(rb:Am K G1 es ws):Yf K (CT K x y) (Kl ds es) G1:=by
 intro n G' H' s1 s2;have j8:Fz K H' x vs:=bS s2 (bS s1 qa);have sv:Fz K H' y ws:=bS s2 (bS s1 qb);refine⟨cG!,λhn=>⟨vs,ws,j8,sv,?_⟩⟩
 .obtain⟨u,v,B,Y,rfl⟩:=a4o ds es n d hd;obtain⟨v1,g1,r1⟩:=eW ra B;obtain⟨v2,g2,r2⟩:=eW rb Y;refine⟨⟨vs,ws,v1,v2,j8,sv,g1,g2⟩,λx' fg hy=>?_⟩;obtain⟨T,rfl,hT,hh⟩:=hy;obtain⟨x1,y1,e1,e2,rfl⟩:=hh vs ws j8 sv;rw[g1]at e1;rw[g2]at e2;cases e1;cases e2;exact⟨_,Ce.laid s2 hT,eK (s2.free hT) (Am.cons (r1.mono s1) (Am.cons (r2.mono s1) Am.nil))⟩
 .rw[hn,<-aI ra,<-aI rb];exact a4n ds es
def c8v(hg:Gl X "zip")(hm:xH_)(hv:xI!)(ha:Q_)(O:cd_)(hs:xI_:=by rfl)
  (bi:starEach [b] X.env=ir_::starEach [] X.env:=by rfl)(av:xJ!:=by rfl):DI X own do_ xJ_ (Zn fa fb):=
 a7q (c2v hg hm hv (dC ha.ok (dC O.ok fB bi) hs) hs av) λZ G H R ρ ds er e k=>by
  obtain⟨x,e1,e⟩:=GG.mp e;obtain⟨y,e2,e⟩:=GG.mp e;cases x with
  |tup xs=>
   cases y with
   |tup ys=>
    cases e;refine xN!;obtain⟨p,vs,rfl,q,rr⟩:=bN gQ!;obtain⟨p',ws,rfl,q',bx⟩:=bN r2;exact⟨p,p',vs,ws,rfl,bS s2.sub q,bS s2.sub q',k _ G2 H2 dj_ (c3y q q' rr bx)⟩
   |_=>cases e
  |_=>cases e
end
def Eh:D->D->Option D:=Ds Tp λi j=>.int (i*j)
def qX{K:zT!}:Ic K mj_ Eh:=c7n
def Bz:D->D->Option D:=Ds n6! λi j=>.int (i%j)
def fE{K:zT!}:Ic K mk_ Bz:=c7o
def Cf:D->D->Option D:=Ds v7_ λi j=>.int (i / j)
def mJ{K:zT!}:Ic K mk! Cf:=c3j
def Gd:D->D->Option D:=Ds v8! λi j=>.int ml!
def c7i{K:zT!}:Ic K ml_ Gd:=c7m
def Jn:D->D->Option D:=Cb λi j=>.bl mp!
def b2k{K:zT!}:Ic K mn_ Jn:=d0x
def Kr:D->D->Option D:=Cb λi j=>.bl mq!
def b8l{K:zT!}:Ic K mq_ Kr:=d0z
def Nt:D->D->Option D:=Cb λi j=>.bl mr!
def d0w{K:zT!}:Ic K mr_ Nt:=d1a
section
variable{X:Cx}{own:List Nat}{pos p2:Pos}
def kZ:Gq X mo! xN_:=d0s.or b4r
def Jr:D->D->Option D
 |.int i,.int j=>some (.bl mo_)
 |.str x,.str y=>some (.bl (Rj x y))
 |_,_=>none
def lA{K:zT!}:Ic K xN_ Jr:=by
 show"!0";unfold Jr at e;show"!6"
 .show"!`";exact .inl xO!
 .cases bT rx;cases bT ry;cases e;exact .inr xO!
 .cases e
def Lg:D->D->Option D
 |.int i,.int j=>some (.bl (!(i==j)))
 |.str x,.str y=>some (.bl (!(x==y)))
 |_,_=>none
def zF{K:zT!}:Ic K FA Lg:=by
 show"!0";unfold Lg at e;show"!6"
 .show"!`";refine m_;rw[b3i];show"!o"
 .cases bT rx;cases bT ry;cases e;refine m_;rw[b3h];show"!o"
 .cases e
def gK{x:Str}{i:Int}(hm:∃t,X.mg x=some dx_)(hg:R!)(hd:F!:=by decide):DE X own cV_ (fC bb_):=by obtain⟨t,ht⟩:=hm;exact c4t hg ht hd
end
def bV{X:Cx}{scope sc:Scope}(h:X.env.scope=sc)(hd:∀y∈b8!,y.2=.free->(sc.names.lookup y.1=some .cell\/sc.names.lookup y.1=some .free)):
  ∀y∈b8!,y.2=.free->vo!:=λy hy hf=>by
 unfold Env.kindOf;rw[h];exact hd y hy hf
section
variable{X:Cx}{own:List Nat}{a b c:Expr}{pos p2:Pos}{fa fb fc:Ad->Option D}
def c0p{op ez:CmpOp}{r r':R2}{g g':aW!}(ho:b3!)(hg:d5_)(eh:iA_)(sh:Ic X.K r' g')(ha:Q_)(O:cd_)(hc:DE X own c fc)
  (hm:iB!:=by with_unfolding_all rfl):DT X own iB_ (fT wM_):=
 xC (b7p ho eh ha.ok O.ok hc.ok hm) λZ G H Q ρ d er e k=>by
  have e:=kE e;obtain⟨x,e1,e⟩:=GG.mp e;obtain⟨y,e2,e⟩:=GG.mp e;obtain⟨z,e3,e⟩:=GG.mp e;refine wN!;have nh:=s1.trans gQ_;cases z with
  |bl bb=>
   cases cX r3;refine wN_;cases bb with
   |true=>
    obtain⟨u,e4,e⟩:=GG.mp e;refine lQ ⟨G3,ρ,u,er.grow nh,e4,λq G4 H4 s4 r4=>sh s4.sub wO! r4 e λv G5 H5 s5 r5=>?_⟩;cases cX r5;exact⟨d,rfl,k G5 H5 wO_⟩
   |false=>
    cases e;exact lR ⟨false,rfl,k G3 H3 nh⟩
  |_=>cases e
def b5r{x:Str}{bn:aP!}(hd:Ub X x bn)(hg:R!)(ha:Q_)(hm:behindInMarks .NotIn dk!=false:=by rfl)(be:F!:=by decide):DT X own (.Compare a [.NotIn] [cF!] pos) (fT (Xx bn true fa)):=by
 show"#E";refine xC (t:=λZ H Q=>tD X.K own fa Z H λv H1=>∃y,v=.str y/\Q (!(Ni kvs ec_).isSome) H1) wS! λZ G H Q ρ d er e k=>?_
 .refine PY (cZ wS_ λv s1 ⟨y,H1,I1,r1,z,hz,q1⟩=>jX I1 hg j0 ?_ be) hm;subst hz;refine wpAny_notIn_of (knd:=wT_) (k:=ov!) wU! TD (yj _ I1.kIn).mapOf ?_;rw[<-(yk.val ou_).isSome_eq];exact IH ⟨H1,I1.tok _,q1⟩
 .have e:=kE e;obtain⟨x,e1,e⟩:=GG.mp e;cases x with
  |str y=>
   cases e;refine fe!;cases bT r1;refine⟨y,rfl,?_⟩;have O:(Ni kvs ec_).isSome=(ot_).isSome:=by
    cases ht:bn.lookup y with
    |none=>rw[(hn y).mpr ht];rfl
    |some d=>obtain⟨v,hv,_⟩:=hs y d ht;rw[hv];rfl
   rw[O];exact k G1 H1 s1
  |_=>cases e
end
def eA:bootBuiltins "len"=some sv_:=by decide+kernel
def c9n:bootBuiltins "abs"=some sr!:=by decide+kernel
def c9l:bootBuiltins "ord"=some zP_:=by decide+kernel
def a4g:bootBuiltins "all"=some wf!:=by decide+kernel
def cH:bootBuiltins "isinstance"=some n8_:=by decide+kernel
def c9m:bootBuiltins "int"=some bA_:=by decide+kernel
def c5d:bootBuiltins "bool"=some bB!:=by decide+kernel
def sD:bootBuiltins "str"=some a2_:=by decide+kernel
def qG:bootBuiltins "tuple"=some bB_:=by decide+kernel
def b3p:bootBuiltins "list"=some bh_:=by decide+kernel
def c9k:bootBuiltins "zip"=some oC!:=by decide+kernel
def Gj(K:zT!)(mg:B_)(x:Str)(st:Stmt)(ps:j_):Prop:=∃σ fd,Wz K x x st σ fd/\Ez K fd ps []/\mg x=some bO!
def Cd(N:j_)(n:Nat)(q:aH!)(ds:b_):Option D:=if f_=n then(match q g3_ with|some (.rt d)=>some d|some (.nx _)=>some .non|none=>none)else none
def eB{K:zT!}{mg:B_}{st:Stmt}{ps:j_}{k:Nat}{h2:j!}{q:aH!}(h:xP_)(S:dV_)
  (O:∀{σ:xh!} {ae:xL!} {A:xz!} {outer:aq_} {s:zS!} {H:Hp} {E:XK},Ak k oN_->Xa (oO!).nox [] h2 bL_ q):
  Ok P w K mg base P_ x ps (Cd N ps.length q):=by
 obtain⟨σ,fd,F,hb,m⟩:=h;refine⟨σ,fd,c8y F S (λae A outer s H E hr=>O hr) (λds d hl e=>?_),hb,m,F.kp⟩;unfold Cd at e;rw[GU hl]at e;show"!6"
 .cases e;left;assumption
 .cases e;right;exact⟨_,by assumption,rfl⟩
 .cases e
def BG:Const->Option D
 |.int i=>some bb_
 |.str i=>some jv_
 |.bool i=>some (.bl i)
 |.none=>some .non
 |_=>none
mutual
noncomputable def Uk:Nat->Expr->Option D
 |0,_=>none
 |n+1,e=>match e with
  |.Constant c _ _=>BG c
  |.Tuple es _ _=>(oO_).bind λds=>if f_<=1000 then some dh! else none
  |.List es _=>(oO_).bind λds=>if f_<=1000 then some cD_ else none
  |_=>none
noncomputable def Uj:Nat->List Expr->Option aF_
 |0,_=>none
 |n+1,[]=>some []
 |n+1,e::es=>(Uk n e).bind λd=>(oO_).bind λds=>some d1!
end
section
variable{X:Cx}{own:List Nat}
def b9k{n:Nat}(h:Uk n e=some d):starEach aK! X.env=eQ!::starEach es X.env:=by
 cases n with
 |zero=>unfold Uk at h;cases h
 |succ n=>
  cases e<;>first|rfl|(simp[Uk]at h;done)
def a6e{z:Str}{i:Int}(h:0<=i/\i<=100/\dT!<=100):PySem.MulOk z i:=by
 obtain⟨h0,B,Y⟩:=h;refine⟨?_,λh3 _=>?_,λ_ _=>?_⟩
 .simp only[Bool.or_eq_false_iff,JX];omega
 .have h4:(100:Int)<=ng! / i:=by
   rw[Int.le_ediv_iff_mul_le a!];omega
  omega
 .have h5:dT!*i.toNat<=100*100:=Nat.mul_le_mul Y a!;unfold PySem.Builtin.Str.tooLong;rw[IN];simp only[JX];omega
mutual
theorem iJ:∀{n:Nat} {e:Expr} {d:D},Uk n e=some d->DE X own e (fC d)
 |0,e,d,h=>by unfold Uk at h;cases h
 |n+1,e,d,h=>by
  unfold Uk at h;split at h
  .unfold BG at h;split at h
   .cases h;exact aB
   .cases h;exact aP
   .cases h;exact gR
   .cases h;exact dI
   .cases h
  .obtain⟨ds,e1,e2⟩:=GG.mp h;split at e2
   .rename_i hl;cases e2;refine eE (cV (b0u e1)).ok λZ G H Q ρ d er e k=>?_;show"#F"
   .cases e2
  .obtain⟨ds,e1,e2⟩:=GG.mp h;split at e2
   .rename_i hl;cases e2;refine eE (rY (b0u e1)).ok λZ G H Q ρ d er e k=>?_;show"#F"
   .cases e2
  .cases h
theorem b0u:∀{n:Nat} {es:bs_} {ds:b_},Uj n es=some ds->DA X own es (λ_=>some ds)
 |0,e,d,h=>by unfold Uj at h;cases h
 |n+1,[],d,h=>by
  unfold Uj at h;cases h;exact aK
 |n+1,e::es,d,h=>by
  unfold Uj at h;obtain⟨d1,e1,h⟩:=GG.mp h;obtain⟨ds,e2,h⟩:=GG.mp h;cases h;exact c0z (aD (iJ e1) (b0u e2) (b9k e1)).ok λZ G H Q ρ d er e k=>⟨G,ρ,_,er,e,k⟩
end
end
section
variable{P:xR!}{w:xM!}{K:zT!}{mg:Str->Option Value}{h:Heap}
def bB{st:Stmt}{ps:j_}{od an:a4_}{dt:b6!}{kV:xL!}(X:fl!)(G:fl_)
  (a:xR_)(l:xS_)
  (c:xT_)(k:gC!)
  (b:xT!):Gj K mg x st ps:=
 ⟨f,_,kh!,oP_,oQ!⟩
def Zw(K:zT!)(mg:B_)(x:Str)(st:Stmt)(ps:j_):Prop:=∃σ fd,Wz K x x st σ fd/\(∀us:List Value,ap_=S!->bindArgs fd c6_=pure c5_)/\mg x=some bO!
def c4q{st:Stmt}{ps:j_}{od an:a4_}{dt:b6!}{kV:xL!}(X:fl!)(G:fl_)
  (a:xR_)(l:xS_)
  (c:xT_)(k:gC!)
  (b:xT!):Zw K mg x st ps:=
 ⟨f,_,kh!,b _ _ _ _ _ _,oQ!⟩
def pV{i:Int}(X:fl!)(G:fl_)(a:W.nsIn K mainGlobals x=some (some (.int i tk))):∃tk,mg x=some (.int i tk):=⟨tk,oQ!⟩
def eR(X:fl!)(G:fl_)(e:W.nsIn K mainGlobals x=some (some aa_)):mg x=some aa_:=W.mg_of X G e
def dN(X:fl!)(G:fl_)(e:W.nsIn K mainGlobals x=some none):mg x=none:=W.mg_none_of X G e
def zT{K:zT!}{H:Hp}:∀(ns:D!),Am K H oQ_ b6_
 |[]=>Am.nil
 |n::r=>Am.cons Ar.int (zT r)
abbrev Tw:=Str×Tok×Addr
def Zf(w:xM!)(r:Tw):DictEntry:=⟨PyData.keyHash w.params r.1,.str r.1 r.2.1,.ref r.2.2⟩
def Ur(K:zT!):List Tw->List cf_->Prop
 |[],[]=>True
 |r::rs,t::ts=>r.1=t.1/\(∀H,Ar K H t.2 (V.ref r.2.2))/\Ur K rs ts
 |_,_=>False
abbrev Vb(rows:fm_):List (L2.Key×V):=rows.map λr=>(Sum.inr r.1,V.ref r.2.2)
abbrev Td(rows:fm_):List wR!:=rows.map λr=>(Sum.inr r.1,Value.ref r.2.2)
def vE{P:xR!}:∀(rows:fm_),Pairs bp_ xV! oR_
 |[]=>.nil
 |r::rs=>.cons (lG P w r.1 r.2.1) rfl (vE rs)
def qR:∀{rows:fm_} {bn:aP!},Ur K rows bn->(Ni oS! ec_=none↔bn.lookup y=none)/\∀d,bn.lookup y=some d->∃v,Ni oS! ec_=some v/\∀H,Ar K H d v
 |[],[],_=>⟨⟨eO!,eO!⟩,λd e=>by cases e⟩
 |[],t::ts,h=>h.elim
 |r::rs,[],h=>h.elim
 |r::rs,(x,d0)::ts,h=>by
  obtain⟨B,Y,h3⟩:=h;have ih:=qR (y:=y) h3;have j9:r.1=x:=B;unfold Ni at ih ⊢;simp only[GM,KG,IF];by_cases e:y=x
  .subst e;have:decide xV_=true:=by simp[j9]
   simp only[this,JW];refine⟨⟨xW_,xW_⟩,λd z=>?_⟩;cases z;exact⟨_,rfl,Y⟩
  .have e1:decide xV_=false:=by
    rw[j9];exact GZ λz=>e (xX!).symm
   have e2:(y==x)=false:=by simp[e]
   simp only[e1,e2];exact ih
def b2x:∀(rows:fm_),KV oS! oR_
 |[]=>.nil
 |r::rs=>.cons bI_ (b2x rs)
def c0g{X:Cx}{x:Str}{ad:xh!}{rows:fm_}{bn:aP!}{ep:Nat}(hw:X.w=w)(hK:X.K=K)(j0:X.mg=mg)(hm:mg x=some j4!)(hs:ot!=false)(hl:K.lookup ad=some {cls:=.type "dict",data:=.dict (xV!).toArray ep})
  (nd:cJ!)(ht:Ur K rows bn):Ub X x bn:=by
 subst hw hK j0;refine⟨ad,Vb rows,Td rows,hm,hs,λh hK=>⟨_,_,_,hK _ _ hl,xY!,rfl,?_,?_,?_⟩,b2x rows,λy=>(qR ht).1,λy d=>(qR ht).2 d⟩
 .intro e he;have cj:e∈rows.map (Zf X.w):=by simpa using he
  obtain⟨r,hr,rfl⟩:=HB.mp cj;exact⟨Sum.inr r.1,lG _ _ r.1 r.2.1,rfl⟩
 .simpa using vE (w:=X.w) (P:=X.prog) rows
 .have e:(oR_).map b!=(kk!).map (Sum.inr:Str->L2.Key):=by simp[Td]
  rw[e];exact List.Pairwise.map _ (λa b lh z=>lh xX!) nd
def a5k{H:Hp}:∀(fs:aq!),Am K H (fs.map D.fn) xZ!
 |[]=>Am.nil
 |n::r=>Am.cons (by unfold Ar;rfl) (a5k r)
def yP:∀(fs:aq!),Ba xZ! xZ_
 |[]=>.nil
 |n::r=>.cons rfl (yP r)
def gC{fs:aq!}{od:a4_}{n:Nat}{sl:b6!}(l:K.lookup a=some ⟨cK!,od,.seq (xZ_).toArray n,sl⟩)(hz:bq!<=1000)(H:Hp):Ar K H (.tup (fs.map D.fn)) e7!:=
 Ar.tup (.inr ⟨_,_,n,l,rfl,rfl,by simpa using gF hz,by simpa using yP fs⟩) (a5k fs)
end
section
variable{X:Cx}{own bh:List Nat}{e a b c o:Expr}{es:List Expr}{pos p2:Pos}{f fa fb fc fe:Ad->Option D}{fs fi:Ad->Option (List D)}{ft fu:Ad->Option Bool}{st:Stmt}{q1:Ad->Option Fl}
def a8b:Iq X a2_ x0_:=by
 intro J s Z H xs us Q I r h;obtain h|⟨z,rfl,q⟩:=h
 .exact a4e J s Z H xs us Q I r h
 .obtain⟨u,rfl,t,rfl⟩:=kS r;exact PySem.P.str_of_str ⟨.str z,H,I,H_,q⟩
def Rw:List D->Option D
 |[.int i]=>if gh!<1920 then some pH! else none
 |[.str z]=>some (.str z)
 |_=>none
def c1g{K:zT!}:Mv K x0_ Rw:=by
 show"!K";unfold Rw at e;show"!6"
 .show"!7";cases aX rv;show"!6"
  .show"!?";exact .inl ⟨_,rfl,hl,gV_⟩
  .cases e
 .show"!7";cases bT rv;cases e;exact .inr ⟨_,rfl,gV_⟩
 .cases e
end
abbrev MK:=Option (Sum L2.Key (List L2.Key))
abbrev BD:Int:=0xFCA86420
section
variable{P:xR!}{w:xM!}{A:xz!}{E:Value->Shared->Prop}{s:zS!}
variable (P w)in
def Jx(h:Heap):MK->Value->Prop
 |none,v=>v=.none
 |some (.inl k),v=>Qt k v=true
 |some (.inr ks),v=>∃a,v=.ref a/\IsTupleKey bp_ h ks a
variable (P w)in
nonrec def mkHash:MK->Int
 |none=>BD
 |some (.inl k)=>BH w k
 |some (.inr ks)=>tupleKeyHash bp_ ks
def a6h(L:Jx P w h x v)(hy:Jx P w h y v):x=y:=by
 obtain _|x|x:=x<;>obtain _|y|y:=y
 .rfl
 .cases x1!;obtain⟨i,t,_,e⟩|⟨i,t,_,e⟩:=bK hy<;>exact nomatch e
 .cases x1!;obtain⟨a,e,_⟩:=hy;exact nomatch e
 .cases hg!;obtain⟨i,t,_,e⟩|⟨i,t,_,e⟩:=bK L<;>exact nomatch e
 .rw[(bp_).inj v x y L hy]
 .obtain⟨a,rfl,_⟩:=hy;obtain⟨i,t,_,e⟩|⟨i,t,_,e⟩:=bK L<;>exact nomatch e
 .cases hg!;obtain⟨a,e,_⟩:=L;exact nomatch e
 .obtain⟨a,rfl,_⟩:=L;obtain⟨i,t,_,e⟩|⟨i,t,_,e⟩:=bK hy<;>exact nomatch e
 .obtain⟨a,rfl,L⟩:=L;obtain⟨b,e,hy⟩:=hy;cases e;rw[L.inj hy]
def jK{h:Heap}{ks:oV_}(x:IsTupleKey bp_ h ks a):∃its,h.IsTuple a its:=by obtain⟨o,its,n,B,Y,h3,_⟩:=x;exact⟨its,o,B,Y,n,h3⟩
def b9c{Q:ef_}(hu:an!)(L:oW!)(hy:Jx P w s.heap y v)(h:Q (decide (x=y)) s):wpAny L! A (eqBool u v) Q E s:=by
 obtain _|x|x:=x<;>obtain _|y|y:=y
 .cases hg_;cases hg!;rw[fn!]at h;exact SeqAt.EqAt.same _ _ _ _ _ h
 .cases hg_;rw[fn_]at h;obtain⟨i,t,rfl,rfl⟩|⟨i,t,rfl,rfl⟩:=bK hy
  .exact SeqAt.EqAt.none_int i t _ _ _ _ h
  .exact SeqAt.EqAt.none_str i t _ _ _ _ h
 .cases hg_;rw[fn_]at h;obtain⟨a,rfl,q⟩:=hy;obtain⟨its,q⟩:=jK q;exact SeqAt.EqAt.none_tuple q hu _ _ _ _ h
 .cases hg!;rw[fn_]at h;obtain⟨i,t,rfl,rfl⟩|⟨i,t,rfl,rfl⟩:=bK L
  .exact SeqAt.EqAt.int_none i t _ _ _ _ h
  .exact SeqAt.EqAt.str_none i t _ _ _ _ h
 .refine(bp_).eqBool L hy ?_;by_cases e:x=y
  .subst e;rw[fn!]at h ⊢;exact h
  .rw[GZ cP_]at h;rw[GZ e];exact h
 .rw[fn_]at h;obtain⟨a,rfl,q⟩:=hy;obtain⟨its,q⟩:=jK q;obtain⟨i,t,rfl,rfl⟩|⟨i,t,rfl,rfl⟩:=bK L
  .exact SeqAt.EqAt.int_tuple i t q hu _ _ _ _ h
  .exact SeqAt.EqAt.str_tuple i t q hu _ _ _ _ h
 .cases hg!;rw[fn_]at h;show"#3";obtain⟨its,q⟩:=jK q;exact SeqAt.EqAt.tuple_none q hu _ _ _ _ h
 .rw[fn_]at h;obtain⟨a,rfl,q⟩:=L;obtain⟨its,q⟩:=jK q;obtain⟨i,t,rfl,rfl⟩|⟨i,t,rfl,rfl⟩:=bK hy
  .exact SeqAt.EqAt.tuple_int i t q hu _ _ _ _ h
  .exact SeqAt.EqAt.tuple_str i t q hu _ _ _ _ h
 .show"#3";obtain⟨b,rfl,q2⟩:=hy;refine wpAny_eqBool_tuple hu q q2 ?_;by_cases e:x=y
  .subst e;rw[fn!]at h ⊢;exact h
  .rw[GZ cP_]at h;rw[GZ e];exact h
def a6g{Q:ef_}(L:oW!)(h:Q true s):wpAny L! A (eqIsQuiet 8 u) Q E s:=by
 obtain _|x|x:=x
 .cases hg_;rw[eqIsQuiet_byValue _ rfl];exact GH h
 .rw[eqIsQuiet_byValue _ ((bp_).byValue x u L)];exact GH h
 .show"#3";exact wpAny_eqIsQuiet_tuple q h
def uD{Q:Int->Shared->Prop}(hu:an!)(L:oW!)(h:∀tk,Q (mkHash P w x) {s with toks:=tk}):wpAny L! A (pyHash u) Q E s:=by
 obtain _|x|x:=x
 .cases hg_;unfold pyHash;have hv:[dz!].any Value.onHeap=false:=rfl;refine GF ?_;rw[cRoomFor,GL (by rw[hv];exact HF)];refine GH ?_;have hT:s.TypeIs .none "NoneType":=rfl;refine GF x5!;rw[GL (show¬(some (Value.builtin "NoneType.__hash__")==some Value.none)=true by rw[beq_builtin_none];exact HF)];refine GF x5!;show wpAny _ _ (callSpecialIfBoundUnlessNone? Value.none (Str.ofString "__hash__") _>>=_) _ _ _;refine GF (wpAny_callSpecialIfBoundUnlessNone?_slot hT LY (IE LY hT PySem.F.entry_NoneType_hash ?_ (PySem.F.args_NoneType_hash_1 _)));refine wpAny_ret_mkInt ?_;exact GH (h _)
 .exact(bp_).pyHash L (h _)
 .show"#3";exact wpAny_pyHash_tuple hu q (h _)
end
def Mb(ks:ba!)(k:MK):Option Nat:=ks.findIdx? λx=>decide (x=k)
def Hg(ks:ba!)(k:MK)(i:Nat):Bool:=decide (ks[i]?=some k)
def pQ{ks:ba!}{j:Nat}(h:x7_):ks[j]?=some k/\∀i,i<j->ks[i]?≠some k:=by obtain⟨B,Y,h3⟩:=List.findIdx?_eq_some_iff_getElem.mp h;refine⟨by rw[HE B];exact congrArg some (JK Y),λi hi e=>?_⟩;have:=h3 i hi;obtain⟨q1,q2⟩:=HC.mp e;rw[q2]at this;simp at this
def a6x{ks:ba!}(h:Mb ks k=none)(i:Nat):ks[i]?≠some k:=λe=>by
 have:=List.findIdx?_eq_none_iff.mp h k (NH e);simp at this
def b0p(ks:ba!)(k:MK):(List.range kl!).find? dr!=Mb ks k:=by
 cases h:Mb ks k with
 |none=>
  rw[List.find?_eq_none];intro i hi z;exact a6x h i (JK z)
 |some j=>
  obtain⟨B,Y⟩:=pQ h;rw[List.find?_range_eq_some];refine⟨by unfold Hg;exact HN B,MZ.mpr (g0!).1,fq!⟩;unfold Hg;rw[GZ (Y i hi)];rfl
section
variable{P:xR!}{w:xM!}{A:xz!}{E:Value->Shared->Prop}{s:zS!}
variable (P w)in
structure Ob(h:Heap)(es:bK_)(ks:ba!):Prop where
 len:es.size=kl!
 at_:∀(i:Nat) (e:DictEntry) (k:MK),es[i]?=some e->ks[i]?=some k->Jx P w h k e.key/\e.hash=mkHash P w k
 nd:hi_
def Ob.get{es:bK_}{ks:ba!}(x:kl_){i:Nat}{e:DictEntry}(q:es[i]?=some e):∃k,ks[i]?=some k/\Jx P w h k e.key/\e.hash=mkHash P w k:=by
 have hl:i<kl!:=by rw[<-x.len];exact(NQ.mp q).1
 exact⟨ks[i],HE hl,x.at_ i e _ q (HE hl)⟩
def Ob.one{es:bK_}{ks:ba!}(x:kl_){i j:Nat}(B:Hg ks k i=true)(Y:Hg ks k j=true):i=j:=by have e1:=JK B;have e2:=JK Y;exact(List.getElem?_inj (HC.mp e1).1 x.nd).mp qQ!
abbrev plc(es:bK_)(h:Int):List Nat:=placesWithHash es.size (λi=>es[i]?.map (·.hash)) h
def a7n{es:bK_}{ks:ba!}(x:kl_)(k:MK):(km!).find? dr!=Mb ks k:=by
 unfold plc placesWithHash;rw[List.find?_filter,<-b0p,x.len];congr 1;funext i;cases hp:Hg ks k i with
 |false=>simp
 |true=>
  have e1:=JK hp;have hl:i<es.size:=by rw[x.len];exact(HC.mp e1).1
  obtain⟨k',q1,q2,q3⟩:=x.get (HZ hl);rw[e1]at q1;cases q1;simp[HZ hl,q3]
def b7u{es:bK_}{h:Int}{i:Nat}(hi:i∈plc es h):i<es.size:=by have:=(JP.mp hi).1;simpa using this
def c6u{es:bK_}{h:Int}:(plc es h).Nodup:=List.nodup_range.sublist NN
def a8l{o:Obj}{es:bK_}{ep:Nat}{ks:ba!}{Q:ya_}(hu:an!)(x:yb!)(hk:eh!)
  (ho:yb_)(hd:yc!)(h:Q hj_ s):wpAny L! A yc_ Q E s:=by
 show"!j";generalize plc es dr_=ay at hf hl ⊢;rw[<-hf]at h;unfold dictWalkPlain;refine GF (PK _ (λrest b s'=>s'=s/\b=fq_/\rest.find? dr!=ay.find? dr!/\∀i∈rest,i<es.size) _ ?_ ?_ _ _ ⟨rfl,rfl,rfl,hl⟩)
 .rintro i rest b s' ⟨rfl,rfl,B,Y⟩;have am:=Y i GO;have he:es[i]?=some es[i]:=HZ am;obtain⟨k',q1,q2,q3⟩:=x.get he;have no:k'≠k->rest.find? dr!=ay.find? dr!:=λb9=>by
   rw[<-B,KG];have:Hg ks k i=false:=by unfold Hg;rw[q1];exact GZ yd_
   rw[this]
  show"#)";rw[he];show"#<";split
  .refine GF oZ_;rw[av_];by_cases lp:k'=k
   .subst lp;rw[fn!];have hi:Hg ks k' i=true:=by unfold Hg;exact HN q1
    have:ay.find? (Hg ks k')=some i:=by rw[<-B,KG,hi]
    rw[this]at h;exact GF (JZ (GH (GH h)))
   .rw[GZ lp];exact GF (JZ (GH ⟨rfl,rfl,no lp,rs⟩))
  .rename_i hh;exact GH ⟨rfl,rfl,no ye!,rs⟩
 .rintro b s' ⟨rfl,rfl,B,_⟩;rw[<-B]at h;exact GH h
def a4q{Q:ef_}(hk:eh!)(hl:∀v∈ay,∃k',Jx P w s.heap k' v)(h:Q false s):wpAny L! A (tableMayTell u ay) Q E s:=by
 unfold tableMayTell;split
 .exact GH h
 .refine GF (a6g hk ?_);rw[av_];refine GF (PK _ (λrest r s'=>s'=s/\r=fq_/\∀v∈rest,v∈ay) _ ?_ ?_ _ _ ⟨rfl,rfl,λ_ z=>z⟩)
  .rintro v rest r s' ⟨rfl,rfl,hr⟩;obtain⟨k',q⟩:=hl v (hr v GO);refine GF (a6g q ?_);rw[av_];exact GH ⟨rfl,rfl,λy hy=>hr y dW_⟩
  .rintro r s' ⟨rfl,rfl,_⟩;exact GH h
def c1w{ks:ba!}{i:Nat}(q1:yf!)(e:k'=k):Hg ks k i=true:=by unfold Hg;rw[<-e];exact HN q1
def b3v{ks:ba!}{i:Nat}{rest:j!}{az:o0_}(hc:(az=none/\(i::rest).find? dr!=Mb ks k)\/∃j,az=some j/\Mb ks k=some j/\Hg ks k j=true/\j∉i::rest)(q1:yf!)(b9:¬k'=k):
  yf_\/∃j,az=some j/\Mb ks k=some j/\Hg ks k j=true/\j∉rest:=by
 obtain⟨e,B⟩|⟨j,e,B,h4,h5⟩:=hc
 .refine .inl eZ_;rw[<-B,KG];have:Hg ks k i=false:=by unfold Hg;rw[q1];exact GZ yd_
  rw[this]
 .exact .inr ⟨j,e,B,h4,λz=>h5 (GI _ z)⟩
def rS{v:xL!}(q:Jx P w h k v):v.isStr z=decide (k=some hk_):=by
 by_cases e:k=some hk_
 .subst e;rw[fn!];obtain⟨i,t,e,_⟩|⟨i,t,e,rfl⟩:=bK q
  .cases e
  .cases e;simp[Value.isStr]
 .rw[GZ e];cases v<;>first|rfl|skip
  rename_i y t;simp only[Value.isStr,KA,ne_eq];rintro rfl;exact e (a6h q (rQ y t))
def c0h{es:bK_}{ks:ba!}(x:kl_)(z:Str):(es.findIdx? λe=>e.key.isStr z)=Mb ks (some hk_):=by
 cases hk:Mb ks (some hk_)with
 |none=>
  rw[Array.findIdx?_eq_none_iff];intro e he;obtain⟨i,hi⟩:=Array.mem_iff_getElem?.mp he;obtain⟨k',q1,q2,_⟩:=x.get hi;rw[rS q2];exact GZ λ(e:k'=_)=>a6x hk i yg_
 |some j=>
  obtain⟨B,Y⟩:=pQ hk;have hj:j<es.size:=by rw[x.len];exact(g0!).1
  rw[Array.findIdx?_eq_some_iff_getElem];refine⟨hj,?_,fq!⟩
  .obtain⟨k',q1,q2,_⟩:=x.get (HZ hj);rw[rS q2];rw[B]at q1;cases q1;exact HN rfl
  .obtain⟨k',q1,q2,_⟩:=x.get (HZ (Nat.lt_trans hi hj));rw[rS q2,GZ (λ(e:k'=_)=>Y i hi yg_)];simp
def d0i{g:Prop}(h:∃T:Prop,(T->g)/\T):g:=let⟨_,f,k⟩:=h;f k
def pW{o:Obj}{es:bK_}{ep:Nat}{ks:ba!}{Q:ya_}(hu:an!)(x:yb!)(hk:eh!)
  (ho:yb_)(hd:yc!)(h:Q hj_ s):wpAny L! A (dictFind d u dr_) Q E s:=by
 have bz:∀v∈(km!).filterMap (λi=>es[i]?.map kn!),∃k',Jx P w s.heap k' v:=λv hv=>by
  obtain⟨i,_,e⟩:=LI.mp hv;obtain⟨e',e1,rfl⟩:=GR.mp e;obtain⟨k',_,q,_⟩:=x.get e1;exact⟨k',q⟩
 have X7:¬(es.any λe=>e.key==u&&e.hash != mkHash P w k)=true:=λz=>by
  obtain⟨i,hi,z⟩:=Array.any_eq_true.mp z;rw[HK,LU,bne_iff_ne]at z;obtain⟨k',_,q,q3⟩:=x.get (HZ hi);rw[z.1]at q;exact z.2 (by rw[q3,a6h q hk])
 show"!j";have p6:(km!).Nodup:=c6u;have av:wpAny L! A yc_ Q E s:=a8l hu x hk ho hd h;unfold dictFind;refine IJ (GF (KL ho hd ?_));refine d0i ?_;apply Exists.intro;apply And.intro
 .intro tl;have ya:(∃a,u=.ref a)\/(∃z t,u=.str z t/\k=some hk_)\/(u=.none\/∃i t,u=.int i t):=by
   clear tl;obtain _|k|k:=k
   .exact .inr (.inr (.inl hk))
   .obtain⟨i,t,rfl,rfl⟩|⟨i,t,rfl,rfl⟩:=bK hk
    .exact .inr (.inr (.inr ⟨i,t,rfl⟩))
    .exact .inr (.inl ⟨i,t,rfl,rfl⟩)
   .obtain⟨a,rfl,_⟩:=hk;exact .inl ⟨a,rfl⟩
  obtain⟨a,ea⟩|⟨z,t,ea,TX⟩|ea|⟨i,t,ea⟩:=ya
  all_goals rw[ea]
  all_goals dsimp only
  rotate_left
  refine wpAny_ite_split (λgn=>?_) λ_=>?_
  .clear tl;unfold foundByValue;rw[c0h x z,<-TX];cases hj:Mb ks k with
   |none=>rw[hj]at h;exact GH h
   |some j=>
    obtain⟨B,_⟩:=pQ hj;have am:j<es.size:=by rw[x.len];exact(g0!).1
    obtain⟨k',q1,q2,_⟩:=x.get (HZ am);rw[B]at q1;cases q1;show"#<";rw[HZ am,<-ea];refine GF oZ_;rw[av_,fn!];rw[hj]at h;exact GF (JZ (GH h))
  all_goals rw[<-ea]
  all_goals refine wpAny_ite_split (λ_=>av) λ_=>?_
  rotate_right
  rw[GL X7]
  all_goals refine wpAny_ite_split (λ_=>GF ab_) λ_=>GF (a4q hk bz ?_)
  all_goals rw[av_]
  all_goals exact tl
 refine GF (PK _ (λrest b s'=>s'=s/\∃az,b=(none,az)/\(∀i∈rest,i<es.size)/\rest.Nodup/\
  (yf_\/∃j,az=some j/\Mb ks k=some j/\Hg ks k j=true/\j∉rest)) _ ?_ ?_ _ _ ⟨rfl,none,rfl,hl,p6,.inl ⟨rfl,hf⟩⟩)
 rotate_left
 .rintro b s' ⟨rfl,az,rfl,_,_,hc⟩;obtain⟨rfl,B⟩|⟨j,rfl,B,_⟩:=hc
  .rw[<-B]at h;exact GH h
  .rw[B]at h;exact GH h
 .rintro i rest b s' ⟨rfl,az,rfl,Y,h3,hc⟩;have am:=Y i GO;have he:es[i]?=some es[i]:=HZ am;obtain⟨k',q1,q2,q3⟩:=x.get he;obtain⟨n1,n2⟩:=HA.mp h3;show"#)";have stay:=λb9=>b3v hc q1 b9;rw[he];show"#<";split
  .refine GF oZ_;rw[av_];by_cases lp:k'=k
   rotate_left
   .rw[GZ lp];simp only[HL,IB,Bool.false_and];exact GF (JZ (GH ⟨rfl,az,rfl,rs,n2,stay lp⟩))
   .have hi:=c1w q1 lp;rw[HN lp];obtain⟨rfl,B⟩|⟨j,e,B,h4,h5⟩:=hc
    .have hL:=B;rw[KG,hi]at hL;simp only[IL,Option.isSome_none,HL,IB];refine GF ha!;split
     .rw[<-hL]at h;exact GH (GH h)
     .exact GH ⟨rfl,M!,rfl,rs,n2,.inr ⟨i,rfl,hL.symm,hi,n1⟩⟩
    .exact absurd (x.one hi h4) λz=>h5 (z▸GO)
  .rename_i hh;exact GH ⟨rfl,az,rfl,rs,n2,stay ye!⟩
end
def Oo(h:Heap)(a:xh!)(es:Z!)(ep:Nat):Prop:=∃o,h.get? a=some o/\hO_/\o.data=.dict es.toArray ep
def Oo.typeIs{s:zS!}{a:xh!}{es:Z!}{ep:Nat}(D:hl_):s.TypeIs aa_ "dict":=let⟨o,ho,hc,_⟩:=D;⟨o,ho,hc.1⟩
def Xv(es:Z!)(j:o0_)(h:Int)(u v:xL!):List DictEntry:=match j with
 |some j=>es.modify j λe=>{e with val:=v}
 |none=>es++[⟨h,u,v⟩]
def Xu(j:o0_)(ep:Nat):Nat:=match j with
 |some _=>ep
 |none=>ep+1
section
variable{P:xR!}{w:xM!}{A:xz!}{E:Value->Shared->Prop}{s:zS!}{a:xh!}{es:List DictEntry}{ep:Nat}{ks:List MK}{k:MK}{u v:xL!}
def d1o{Q:fj_}(hu:an!)(D:hl_)(x:kp!)(hk:eh!)(h:∀tk,Q ((hj_).bind λj=>es[j]?.map (·.val)) {s with toks:=tk}):
  wpAny L! A (dictGet a u) Q E s:=by
 obtain⟨o,ho,_,hd⟩:=D;unfold dictGet;refine IJ o3_;have h:=h tk;cases hj:Mb ks k with
 |none=>rw[hj]at h;exact GH h
 |some j=>
  rw[hj]at h;refine GF (KL (s:=ei!) ho hd ab_);rw[KP];exact h
def uK{h:Heap}{f:Array DictEntry->Array DictEntry}{au:Z!}{o:Obj}(ho:h.get? a=some o)(hc:hO_)(hd:o.data=.dict es.toArray ep)(he:f es.toArray=au.toArray):
  Oo (h.update a (Obj.mapDict f)) a au ep/\Oo (h.update a (Obj.mapDictKeys f)) a au ba_:=
 ⟨⟨_,MC _ ho (Obj.isFreed_of_dict (Obj.data_mapDict hd _)),hc.mapDict _,by rw[Obj.data_mapDict hd,he]⟩,⟨_,MC _ ho (Obj.isFreed_of_dict (Obj.data_mapDictKeys hd _)),hc.mapDictKeys _,by rw[Obj.data_mapDictKeys hd,he]⟩⟩
def d1n{Q:cS_}(hu:an!)(D:hl_)(x:kp!)(hk:eh!)(hl:o4_)
  (h:∀h' tk,Oo h' a (Xv es hj_ dr_ u v) (Xu hj_ ep)->Heap.SameBut a s.heap h'->Q () {s with heap:=h',toks:=tk}):wpAny L! A yn_ Q E s:=by
 obtain⟨o,ho,hc,hd⟩:=D;unfold dictSet;refine IJ (GF (uD hu hk λtk=>?_));unfold dictSetHashed;refine IJ (GF yl_);cases hj:Mb ks k with
 |none=>
  rw[hj]at h;exact GF (JZ (QH (s:=ei!) ho hd (h _ tk (yo!).2 ed!) (hz:=kq_)))
 |some j=>
  rw[hj]at h;exact GF (JZ (GF (wpAny_updateDict (s:=ei!) ho hd (wpAny_point (h _ tk (yo!).1 ed!)))))
def qA{Q:p!}(hu:an!)(D:hl_)(x:kp!)(hk:eh!)(hl:o4_)
  (B:∀j e tk,Mb ks k=some j->es[j]?=some e->Q e.val {s with toks:=tk})
  (Y:∀h' tk,Mb ks k=none->Oo h' a (es++[⟨mkHash P w k,u,v⟩]) ba_->Heap.SameBut a s.heap h'->Q v {s with heap:=h',toks:=tk}):wpAny L! A (dictSetDefault a u v) Q E s:=by
 obtain⟨o,ho,hc,hd⟩:=D;unfold dictSetDefault;refine IJ o3_;cases hj:Mb ks k with
 |none=>
  exact GF (JZ (GF (QH (s:=ei!) ho hd (GH (Y _ tk hj (uK ho hc hd c_).2 ed!)) (hz:=kq_))))
 |some j=>
  have am:j<ae!:=by
   have:=(HC.mp (pQ hj).1).1;rw[<-x.len]at this;show"#6"
  refine GF yp!;rw[KP,HE am];exact GF (JZ (GH (B j _ tk hj (HE am))))
def c8p{j:Nat}{e:DictEntry}{Q:Option DictEntry->Shared->Prop}(hu:an!)(D:hl_)(x:kp!)(hk:eh!)(hl:o4_)(hj:x7_)(he:es[j]?=some e)
  (h:∀h' tk,Oo h' a yp_ ba_->Heap.SameBut a s.heap h'->Q ic_ {s with heap:=h',toks:=tk}):wpAny L! A yq! Q E s:=by
 obtain⟨o,ho,hc,hd⟩:=D;unfold Builtin.Dict.takeOut;refine IJ o3_;rw[hj];refine GF yp!;rw[KP,he];have am:j<ae!:=(HC.mp he).1;refine GF (QH (s:=ei!) ho hd (GH (h _ tk (uK ho hc hd ?_).2 ed!)) (hz:=kq_) (hf:=?_))
 .rw[Array.eraseIdxIfInBounds,dif_pos yq_];simp
 .rw[Array.eraseIdxIfInBounds];split
  .rw[Array.size_eraseIdx];omega
  .omega
end
def Lh:List D->Option (List L2.Key)
 |[]=>some []
 |.int i::r=>(Lh r).map (Sum.inl i::·)
 |.str x::r=>(Lh r).map (Sum.inr x::·)
 |_::_=>none
def Dm:D->Option MK
 |.non=>some none
 |.int i=>some (some (.inl (.inl i)))
 |.str x=>some (some (.inl (.inr x)))
 |.tup xs=>(Lh xs).map λks=>some (.inr ks)
 |_=>none
def zQ:∀{xs ys:b_} {ks:oV_},Lh xs=some ks->Lh ys=some ks->xs=ys
 |[],ys,ks,h,h'=>by
  cases h;cases ys with
  |nil=>rfl
  |cons y r=>cases y<;>simp[Lh]at h'
 |x::xs,[],ks,h,h'=>by
  cases h';cases x<;>simp[Lh]at h
 |x::xs,y::ys,ks,h,h'=>by
  cases x<;>simp only[Lh]at h<;>first|(cases h;done)|skip
  all_goals (obtain⟨l,e1,rfl⟩:=GR.mp h)
  all_goals (cases y<;>simp only[Lh]at h'<;>first|(cases h';done)|skip)
  all_goals (obtain⟨l',e2,e3⟩:=GR.mp h')
  all_goals (injection e3 with e4 e5)
  all_goals first|(injection e4;done)|skip
  all_goals (injection e4 with e4;subst e4 e5;rw[zQ e1 e2])
def b2q(h:fs_)(h':ch_):x=y:=by
 cases x<;>simp only[Dm]at h<;>first|(cases h;done)|skip
 all_goals (cases y<;>simp only[Dm]at h'<;>first|(cases h';done)|skip)
 all_goals first
  |rfl
  |(cases h;cases h';rfl)
  |(cases h;cases h')
  |(cases h;obtain⟨l,e1,e2⟩:=GR.mp h';cases e2)
  |(cases h';obtain⟨l,e1,e2⟩:=GR.mp h;cases e2)
  |(obtain⟨l,e1,e2⟩:=GR.mp h;obtain⟨l',e3,e4⟩:=GR.mp h';cases e2;cases e4;rw[zQ e1 e3])
def Cu(K:zT!)(G:Hp)(d:D)(u:xL!):Prop:=∃v,Ar K G d v/\Bp v u
def Cu.mono{K:zT!}{G G':Hp}(e:kr_)(h:Cu K G d u):Cu K G' d u:=let⟨v,B,Y⟩:=h;⟨v,B.mono e,Y⟩
def a5i{K:zT!}{G:Hp}:∀{ds:b_} {vs:k!} {ks:oV_},Am K G ds vs->Lh ds=some ks->vs=ks.map kV
 |[],vs,ks,r,e=>by cases cU r;cases e;rfl
 |d::ds,vs,ks,r,e=>by
  obtain⟨v,t,rfl,r1,r2⟩:=bQ r;cases d<;>simp only[Lh]at e<;>first|(cases e;done)|skip
  all_goals (obtain⟨l,e1,rfl⟩:=GR.mp e;rw[a5i r2 e1])
  .cases aX r1;rfl
  .cases bT r1;rfl
def qT{X:Cx}{J:l_}{Z:St}{G H:Hp}{s:zS!}(I:d!)(sub:K!)(r:bR!)(e:bo!):Jx X.prog X.w s.heap k u:=by
 obtain⟨v,r,ru⟩:=r;cases d<;>simp only[Dm]at e<;>first|(cases e;done)|skip
 .cases e;cases dW r;exact ru
 .cases e;cases aX r;obtain⟨t,rfl⟩:=ru;exact zR _ _
 .cases e;cases bT r;obtain⟨t,rfl⟩:=ru;exact rQ _ _
 .obtain⟨ks,e1,rfl⟩:=GR.mp e;obtain⟨a,vs,rfl,q,rr⟩:=bN r;cases ru;show"#2";rw[a5i rr e1]at rv;exact⟨a,rfl,o,aQ!,n,B,Y,h3,by simpa using rR rv⟩
open Classical in
nonrec def kget:List ay_->D->Option D
 |[],_=>none
 |(k,v)::r,d=>if k=d then some v else kget r d
open Classical in
def Aq:List ay_->D->D->List ay_
 |[],d,v=>[(d,v)]
 |(k,x)::r,d,v=>if k=d then(k,v)::r else(k,x)::Aq r d v
open Classical in
def Gm:List ay_->D->List ay_
 |[],_=>[]
 |(k,x)::r,d=>if k=d then r else(k,x)::Gm r d
section
variable{P:xR!}{w:xM!}{K:zT!}{G G':Hp}
variable (P w K G)in
def BV(p:D×D)(e:DictEntry):Prop:=Cu K G p.1 e.key/\Cu K G p.2 e.val/\∃k,Dm p.1=some k/\e.hash=mkHash P w k
variable (P w K G)in
def Hm(kvs:g!)(es:Z!):Prop:=Paired (BV P w K G) kvs es/\(ft!).Nodup
def Hm.mono{es:Z!}(e:kr_)(h:ft_):Hm P w K G' kvs es:=
 ⟨Paired.mapP h.1 λp q z=>⟨z.1.mono e,z.2.1.mono e,z.2.2⟩,h.2⟩
def Il(kvs:g!):List MK:=kvs.map λp=>(Dm p.1).getD none
def fW{α β:Type}{F:cQ_}:∀{l:J!} {m:dA_} {i:Nat} {a:α},Paired F l m->l[i]?=some a->∃b,m[i]?=some b/\F a b
 |_,_,_,_,.nil,e=>by simp at e
 |_,_,0,_,.cons r _,e=>by simp at e;subst e;exact lm!
 |_,_,i+1,a,.cons _ t,e=>by
  obtain⟨b,B,Y⟩:=fW (i:=i) (a:=a) t cP_;exact⟨b,hN!,Y⟩
def iU{α β:Type}{F:cQ_}:∀{l l':J!} {m m':dA_},Paired F l m->Paired F l' m'->Paired F (l++l') (m++m')
 |_,_,_,_,.nil,h=>h
 |_,_,_,_,.cons r t,h=>.cons r (iU t h)
def mZ{α β:Type}{F:cQ_}{f:α->α}{g:β->β}:∀{l:J!} {m:dA_} (j:Nat),Paired F l m->(∀a b,l[j]?=some a->m[j]?=some b->F a b->F (f a) (g b))->Paired F (l.modify j f) (m.modify j g)
 |_,_,j,.nil,_=>by simpa using Paired.nil
 |_,_,0,.cons r t,h=>.cons (h _ _ rfl rfl r) t
 |_,_,j+1,.cons r t,h=>.cons r (mZ j t λa b e1 e2=>h a b (by simpa using e1) (by simpa using e2))
def oV{α β:Type}{F:cQ_}:∀{l:J!} {m:dA_} (j:Nat),Paired F l m->Paired F (l.eraseIdx j) (m.eraseIdx j)
 |_,_,_,.nil=>.nil
 |_,_,0,.cons _ t=>t
 |_,_,j+1,.cons r t=>.cons r (oV j t)
def Hm.ents{X:Cx}{J:l_}{Z:St}{H:Hp}{s:zS!}{es:Z!}(I:d!)(sub:K!)(h:Hm X.prog X.w X.K G kvs es):Ob X.prog X.w s.heap es.toArray fu!:=by
 obtain⟨B,Y⟩:=h;refine⟨by simp[Il,LJ B],λi e k he hk=>?_,?_⟩
 .rw[KP]at he;unfold Il at hk;rw[HY]at hk;obtain⟨p,hp,rfl⟩:=GR.mp hk;obtain⟨e',cj,q1,_,k',q2,q3⟩:=fW B hp;rw[he]at cj;cases cj;rw[q2];exact⟨qT I sub q1 q2,q3⟩
 .have ke:∀{l:g!} {m:Z!},Paired (BV X.prog X.w X.K G) l m->(ei_).Nodup->(Il l).Nodup:=by
   intro l m hp
   induction hp with
   |nil=>intro _;exact MB
   |@cons p e l m q t ih=>
    intro nd;rw[GM,HA]at nd;show(_::Il l).Nodup;rw[HA];refine⟨cK_,ih nd.2⟩;obtain⟨p',br,e'⟩:=HB.mp z;obtain⟨_,_,k,hk,_⟩:=q;obtain⟨i,hi⟩:=LM.mp br;obtain⟨_,_,_,_,k',cr,_⟩:=fW t hi;dsimp only at e';rw[hk,cr]at e';have:k'=k:=e';subst this;exact nd.1 (HB.mpr ⟨p',br,b2q cr hk⟩)
  exact ke B Y
def Hm.look{kvs:g!}{es:Z!}(h:ft_)(hd:bo!):
  (Mb fu! k=none/\kget kvs d=none/\(∀v,Aq kvs d v=kvs++[(d,v)])/\d∉kvs.map b!)\/∃j x e,Mb fu! k=some j/\kvs[j]?=some bD!/\es[j]?=some e/\kget kvs d=some x/\Cu K G x e.val/\(∀v,Aq kvs d v=kvs.modify j λp=>(p.1,v))/\Gm kvs d=kvs.eraseIdx j:=by
 obtain⟨B,Y⟩:=h
 induction B with
 |nil=>exact .inl ⟨rfl,rfl,eO!,H!⟩
 |@cons p e l m q t ih=>
  obtain⟨y,z⟩:=p;rw[GM,HA]at Y;obtain⟨_,q2,k',q3,_⟩:=q;have q3:Dm y=some k':=q3;have nu:Il ((y,z)::l)=k'::Il l:=by unfold Il;rw[GM,q3];rfl
  by_cases hy:y=d
  .subst hy;rw[hd]at q3;cases q3;refine .inr ⟨0,z,e,?_,rfl,rfl,by simp[kget],q2,λv=>by simp[Aq,List.modify],by simp[Gm]⟩;rw[nu];unfold Mb;rw[List.findIdx?_cons];simp
  .have b9:k'≠k:=λe=>hy (b2q q3 (e▸hd));have cr:Mb (Il ((y,z)::l)) k=(Mb (Il l) k).map (·+1):=by
    rw[nu];unfold Mb;rw[List.findIdx?_cons];simp[b9]
   obtain⟨i1,i2,i3,i4⟩|⟨j,x,e',i1,i2,i3,i4,i5,i6,i7⟩:=ih Y.2
   .refine .inl ⟨yr!,by simp[kget,hy,i2],λv=>by simp[Aq,hy,i3 v],?_⟩;rw[GM,GJ,NB];exact⟨λe=>hy e.symm,i4⟩
   .exact .inr ⟨j+1,x,e',yr!,by simpa using i2,by simpa using i3,by simp[kget,hy,i4],i5,λv=>by simp[Aq,hy,i6 v],by simp[Gm,hy,i7]⟩
def Hm.put{es:Z!}(h:ft_)(hd:bo!)(ru:Cu K G d u)(rv:Cu K G x v):Hm P w K G o6! (Xv es (Mb fu! k) dr_ u v):=by
 obtain⟨i1,i2,i3,i4⟩|⟨j,y,e',i1,i2,i3,i4,i5,i6,i7⟩:=h.look hd
 .rw[i1,i3];refine⟨iU h.1 (.cons ⟨ru,rv,k,hd,rfl⟩ .nil),?_⟩;rw[HM,HU];refine⟨h.2,H!,λa ha b O e=>?_⟩;simp at O;subst O e;exact i4 ha
 .rw[i1,i6];refine⟨mZ j h.1 λa b _ _ q=>⟨q.1,rv,q.2.2⟩,?_⟩;have:∀(l:g!) (j:Nat),(l.modify j λp=>(p.1,x)).map b!=l.map b!:=by
   intro l
   induction l with
   |nil=>intro j;simp
   |cons p l ih=>
    intro j;cases j with
    |zero=>simp
    |succ j=>simp[ih j]
  rw[this];exact h.2
def Hm.del{kvs:g!}{es:Z!}{j:Nat}(h:ft_):Hm P w K G (kvs.eraseIdx j) yp_:=by refine⟨oV j h.1,?_⟩;exact h.2.sublist ((List.eraseIdx_sublist kvs j).map _)
end
inductive Oc where
 |lst (xs:b_)|dct (kvs:g!) (ep:Nat)|obj (C:xh!) (fs:aP!)
abbrev Mh:=Addr->Option Oc
def Ay(M:Mh)(a:xh!)(c:Oc):Mh:=λb=>if b=a then some c else M b
def mup_same{M:Mh}{a:xh!}{c:Oc}:Ay M a c a=some c:=by unfold Ay;rw[l!]
def mup_ne{M:Mh}{a b:xh!}{c:Oc}(h:b≠a):Ay M a c b=M b:=by unfold Ay;rw[GL h]
nonrec def dE(a:xh!)(es:Z!)(ep:Nat):HO:=.ext λh=>Oo h a es ep/\dA!=false/\ae!<=big
def Oa(K:zT!)(G:Hp):List cf_->List dz_->Prop:=Paired λp q=>p.1=q.1/\Ar K G p.2 q.2
section
variable(P:xR!)(w:xM!)(K:zT!)
def Ha(G H:Hp)(a:xh!):Oc->Prop
 |.lst xs=>∃vs,H a=some dh_/\Am K G xs vs
 |.dct kvs ep=>∃es,H a=some ks_/\Hm P w K G kvs es
 |.obj C fs=>∃dx vs,H a=some yr_/\Oa K G fs vs
structure MR(M:Mh)(G H:Hp):Prop where
 cell:∀a c,M a=some c->G a=none/\Ha P w K G H a c
end
structure XM(M:Mh)(G H:Hp)(M':Mh)(G' H':Hp):Prop where
 g:Bg G G'
 sub:Bg G' H'
 new:∀b,G' b≠none->G b≠none\/H b=none
 keep:∀b o,H b=some o->M b=none->H' b=some o
 dom:∀b,M' b≠none->M b≠none\/H b=none
 cells:∀b,M b≠none->M' b≠none
def XM.refl{M:Mh}{G H:Hp}(s:K!):XM M G H M G H:=⟨e9_,s,jy!,λ_ _ h _=>h,jy!,λ_ h=>h⟩
def XM.free{M M':Mh}{G H G' H':Hp}{b:xh!}(x:kt!)(hM:M b=none)(h:H' b=none):H b=none:=by
 cases e:H b with
 |none=>rfl
 |some o=>rw[x.keep b o e hM]at h;cases h
section
variable{P:xR!}{w:xM!}{K:zT!}{M M1 M2:Mh}{G H G' H' G1 H1 G2 H2:Hp}
def Oa.mono{fs:aP!}{vs:es_}(e:kr_)(h:Oa K G fs vs):Oa K G' fs vs:=Paired.mapP h λ_ _ z=>⟨z.1,z.2.mono e⟩
def Ha.mono{a:xh!}{c:Oc}(e:kr_)(h:ys!)(hH:H' a=H a):Ha P w K G' H' a c:=by
 cases c with
 |lst xs=>obtain⟨vs,B,Y⟩:=h;exact⟨vs,o6_,Y.mono e⟩
 |dct kvs ep=>obtain⟨es,B,Y⟩:=h;exact⟨es,o6_,Y.mono e⟩
 |obj C fs=>obtain⟨dx,vs,B,Y⟩:=h;exact⟨dx,vs,o6_,Y.mono e⟩
def Ha.has{a:xh!}{c:Oc}(h:ys!):H a≠none:=by
 cases c with
 |lst xs=>obtain⟨vs,B,Y⟩:=h;rw[B];simp
 |dct kvs ep=>obtain⟨es,B,Y⟩:=h;rw[B];simp
 |obj C fs=>obtain⟨dx,vs,B,Y⟩:=h;rw[B];simp
def MR.has(m:bR_){c:xh!}(h:M c≠none):H c≠none:=by
 cases e:M c with
 |none=>exact absurd e h
 |some q=>exact(m.cell c q e).2.has
def XM.trans(a:XM M G H M1 G1 H1)(b:XM M1 G1 H1 M2 G2 H2)(m:yt_):XM M G H M2 G2 H2 where
 g:=a.g.trans b.g
 sub:=b.sub
 new:=λc h=>by
  obtain z|z:=b.new c h
  .exact a.new c z
  .cases hM:M c with
   |none=>exact .inr (a.free hM z)
   |some q=>exact absurd z (m.has (a.cells c yu!))
 keep:=λc o h hM=>by
  refine b.keep c o (a.keep c o h hM) ?_;cases e:M1 c with
  |none=>rfl
  |some q=>
   rcases a.dom c kt_ with z|z
   .exact absurd hM z
   .rw[h]at z;cases z
 dom:=λc h=>by
  obtain z|z:=b.dom c h
  .exact a.dom c z
  .cases hM:M c with
   |none=>exact .inr (a.free hM z)
   |some q=>exact .inl c_
 cells:=λc h=>b.cells c (a.cells c h)
def XM.ext(x:jz!):XM M G H M G' H':=⟨x.g,x.sub,x.new,λb o h _=>x.h b o h,jy!,λ_ h=>h⟩
def MR.ext(m:bR_)(x:jz!):MR P w K M G' H':=⟨λa c e=>by
 obtain⟨B,Y⟩:=m.cell a c e;have hn:H a≠none:=Y.has;refine yu_
 .cases q:G' a with
  |none=>rfl
  |some o=>
   rcases x.new a b7_ with z|z
   .exact absurd B z
   .exact absurd z hn
 .cases q:H a with
  |none=>exact absurd q hn
  |some o=>exact x.h a o q⟩
end
structure So(P:xR!)(w:xM!)(K:zT!)(own:j!)(G H:Hp)(Z:St)(ρ:Ad)(M:Mh):Prop where
 or:OR K own G H Z ρ
 mr:MR P w K M G H
 dj:∀i∈own,∀p,Z[i]?=some ca_->M p=none
section
variable{P:xR!}{w:xM!}{K:zT!}{own:List Nat}{M M' M1 M2:Mh}{G H G' H' G1 H1 G2 H2:Hp}{Z:St}{ρ:Ad}
def OR.growM(h:cb!)(x:kt!)(dj:∀i∈own,∀p,Z[i]?=some ca_->M p=none):OR K own G' H' Z ρ where
 sub:=x.sub
 len:=h.len
 at_:=λi d q n=>let⟨v,B,Y⟩:=h.at_ i d q n;vA_
 own_:=λi hi=>by
  obtain⟨p,ds,vs,B,Y,h3,h4,h5⟩:=h.own_ i hi;refine⟨p,ds,vs,B,Y,x.keep _ _ h3 (dj i hi p Y),?_,h5.mono x.g⟩;cases q:G' p with
  |none=>rfl
  |some o=>
   rcases x.new p b7_ with z|z
   .exact absurd h4 z
   .rw[h3]at z;cases z
 dis:=h.dis
def So.grow(s:ho!)(x:kt!)(m:yv!):So P w K own G' H' Z ρ M':=
 ⟨s.or.growM x s.dj,m,λi hi p e=>by
  cases q:M' p with
  |none=>rfl
  |some c=>
   obtain⟨p',ds,vs,B,Y,h3,h4,h5⟩:=s.or.own_ i hi;rw[e]at Y;cases Y;rcases x.dom p b7_ with z|z
   .exact absurd (s.dj i hi p e) z
   .rw[h3]at z;cases z⟩
end
abbrev WE:=Ad->Mh->yv_->Prop
abbrev WA:=Ad->Mh->yw!->Prop
abbrev WT:=Ad->Mh->(Bool->Mh->Prop)->Prop
section
variable(P:xR!)(w:xM!)(K:zT!)(own:List Nat)
inductive AG(f:WE)(Z:St)(H:Hp)(Q:VK):Prop
 |mk (G:Hp) (ρ:Ad) (M:Mh) (R:v_) (st:ho!) (e:ho_) (k:∀d M' v G' H',R d M'->XM M G H M' G' H'->MR P w K M' G' H'->Ar K G' d v->Q v H'):AG f Z H Q
inductive EW(f:WA)(Z:St)(H:Hp)(Q:cU!):Prop
 |mk (G:Hp) (ρ:Ad) (M:Mh) (R:o7!) (st:ho!) (e:ho_) (k:∀d M' v G' H',R d M'->XM M G H M' G' H'->MR P w K M' G' H'->Am K G' d v->Q v H'):EW f Z H Q
inductive Yh(f:WT)(Z:St)(H:Hp)(Q:dD_):Prop
 |mk (G:Hp) (ρ:Ad) (M:Mh) (R:fu_) (st:ho!) (e:ho_) (k:∀d M' G' H',R d M'->XM M G H M' G' H'->MR P w K M' G' H'->Q d H'):Yh f Z H Q
end
structure ME(X:Cx)(own:j!)(e:Expr)(f:WE):Prop where
 ok:PE X e (AG X.prog X.w X.K own f)
structure MA(X:Cx)(own:j!)(es:bs_)(f:WA):Prop where
 ok:PA X es (EW X.prog X.w X.K own f)
structure MT(X:Cx)(own:j!)(e:Expr)(f:WT):Prop where
 ok:PT X e yw_
structure MW(X:Cx)(own:j!)(e:Expr)(f:WT):Prop where
 ok:PW X e yw_
nonrec def wl(f:d_):WE:=λρ M R=>match f ρ with|some d=>R d M|none=>False
def Di(f:af_):WT:=λρ M R=>match f ρ with|some d=>R d M|none=>False
section
variable{X:Cx}{own:List Nat}{e a b c:Expr}{es rest:List Expr}{pos:Pos}{f fa fb fc:WE}{fs:WA}{ft fu:WT}{g:Ad->Option D}{gs:Ad->Option (List D)}{gt:Ad->Option Bool}
def eC{t:TE}(h:h7_)(hw:∀Z G H Q ρ M R,So X.prog X.w X.K own G H Z ρ M->f ρ M R->(∀d M' v G' H',R d M'->XM M G H M' G' H'->MR X.prog X.w X.K M' G' H'->Ar X.K G' d v->Q v H')->t Z H Q):ME X own e f:=
 yx!
def c5w{t:TA}(h:go!)(hw:∀Z G H Q ρ M R,So X.prog X.w X.K own G H Z ρ M->fs ρ M R->(∀d M' v G' H',R d M'->XM M G H M' G' H'->MR X.prog X.w X.K M' G' H'->Am X.K G' d v->Q v H')->t Z H Q):MA X own es fs:=
 ⟨λp J s Z H Q I ⟨G,ρ,M,R,st,e,k⟩=>h p J s Z H Q I o7_⟩
def b2o{t:TT}(h:PT X e t)(hw:yx_):MT X own e ft:=
 yx!
def c5r{t:TT}(h:PW X e t)(hw:yx_):MW X own e ft:=
 ⟨λwh J s Z H Q I ⟨G,ρ,M,R,st,e,k⟩=>h wh J s Z H Q I o7_⟩
def c1s{ρ:Ad}{M:Mh}{R:v_}(h:wl g ρ M R):∃d,g ρ=some d/\R d M:=by
 unfold wl at h;split at h
 .exact yy_
 .exact h.elim
def b6c{ρ:Ad}{M:Mh}{R:fu_}(h:Di gt ρ M R):∃d,gt ρ=some d/\R d M:=by
 unfold Di at h;split at h
 .exact yy_
 .exact h.elim
def aC(h:DE X own e g):ME X own e (wl g):=eC h.ok λZ G H Q ρ M R st e' k=>by
 obtain⟨d,e1,e2⟩:=c1s e';exact⟨G,ρ,d,st.or,e1,λv G' H' x r=>k d M v G' H' e2 (.ext x) o9_ r⟩
def eX(h:DT X own e gt):MT X own e (Di gt):=b2o h.ok λZ G H Q ρ M R st e' k=>by
 obtain⟨d,e1,e2⟩:=b6c e';exact⟨G,ρ,d,st.or,e1,λG' H' x=>k d M G' H' e2 (.ext x) o9_⟩
def Af:WA:=λ_ M R=>R [] M
def Ab(f:WE)(fs:WA):WA:=λρ M R=>f ρ M λd M1=>fs ρ M1 λds M2=>R d1! M2
def aO:MA X own [] Af:=c5w fB λZ G H Q ρ M R st e k=>k [] M [] G H e pa! st.mr Am.nil
def aF(h:bS!)(hs:ku_)(bz:ak_:=by rfl):MA X own aK! (Ab f fs):=
 c5w vW! λZ G H Q ρ M R st e' k=>⟨G,ρ,M,_,st,e',λd M1 v G1 H1 r1 x1 m1 q1=>⟨G1,ρ,M1,_,st.grow x1 m1,r1,λds M2 vs G2 H2 r2 x2 m2 q2=>
  k _ M2 _ G2 H2 r2 ci! m2 (Am.cons bS_ q2)⟩⟩
def Wy(P:xR!)(w:xM!)(K:zT!)(r:R2)(g:bT!):Prop:=∀{x y:V} {dx dy d:D} {M:Mh} {G H:Hp} {Q:VK},Bg G H->MR P w K M G H->Ar K G dx x->Ar K G dy y->g M dx dy=some d->jC_->r x y H Q
def Ic.m{P:xR!}{w:xM!}{K:zT!}{r:R2}{g:aW!}(h:Ic K r g):Wy P w K r pb!:=λs _ rx ry e k=>h s rx ry e k
nonrec def w2(g:bT!)(fa fb:WE):WE:=λρ M R=>fa ρ M λx M1=>fb ρ M1 λy M2=>match g M2 x y with|some d=>R d M2|none=>False
def c1x{r:R2}{gm:bT!}(hg:hp_){Z:St}{G H:Hp}{Q:VK}{ρ:Ad}{M:Mh}{R:v_}(st:yz_)(e:w2 gm fa fb ρ M R)
  (k:∀d M' v G' H',R d M'->XM M G H M' G' H'->MR X.prog X.w X.K M' G' H'->Ar X.K G' d v->Q v H'):AB r (AG X.prog X.w X.K own fa) (AG X.prog X.w X.K own fb) Z H Q:=
 ⟨G,ρ,M,_,st,e,λx M1 u G1 H1 r1 x1 m1 q1=>⟨G1,ρ,M1,_,st.grow x1 m1,r1,λy M2 v G2 H2 r2 x2 m2 q2=>by
  have r2:(match gm M2 x y with|some d=>R d M2|none=>False):=r2;split at r2
  .rename_i d hd;exact hg x2.sub m2 bS_ q2 hd λz G3 H3 x3 q3=>k d M2 z G3 H3 r2 ((ci!).trans (.ext x3) m2) (m2.ext x3) q3
  .exact r2.elim⟩⟩
def sM{op:Operator}{r:R2}{gm:bT!}(ho:mg!)(hg:hp_)(ha:Z_)(O:ci_):ME X own mg_ kv!:=
 eC vL_ λZ G H Q ρ M R st e k=>c1x hg st e k
def jW{op:CmpOp}{r:R2}{gm:bT!}(ho:b3!)(hg:hp_)(ha:Z_)(O:ci_)(hm:dE_):ME X own dF! kv!:=
 eC vK_ λZ G H Q ρ M R st e k=>c1x hg st e k
def bU{r:R2}{gm:bT!}(hr:Vx X r)(hg:hp_)(ha:Z_)(O:ci_)(hs:Pp b):ME X own m7_ kv!:=
 eC vL! λZ G H Q ρ M R st e k=>c1x hg st e k
nonrec def wT(f:WE):WT:=λρ M R=>f ρ M λd M1=>match d with|.bl b=>R b M1|_=>False
def eG{op:CmpOp}{r:R2}{gm:bT!}(ho:b3!)(hg:hp_)(ha:Z_)(O:ci_)(hm:dE_):MT X own dF! (wT kv!):=
 b2o vM_ λZ G H Q ρ M R st e k=>c1x (own:=own) (Q:=vN!) hg st e λd M' v G' H' r' x' m' q'=>by
  cases d<;>first|exact r'.elim|skip
  cases cX q';exact yB!
def fP(h:bS!)(he:h8!:=by intro _;rfl):MT X own e (wT f):=
 b2o (b7m h.ok he) λZ G H Q ρ M R st e k=>⟨G,ρ,M,_,st,e,λd M' v G' H' r' x' m' q'=>by
  cases d<;>first|exact r'.elim|skip
  cases cX q';exact yB!⟩
def Gs(ft fu:WT):WT:=λρ M R=>ft ρ M λb M1=>if b then fu ρ M1 R else R false M1
def CC(ft fu:WT):WT:=λρ M R=>ft ρ M λb M1=>if b then R true M1 else fu ρ M1 R
def Ly(ft:WT):WT:=λρ M R=>ft ρ M λb M1=>R (!b) M1
def jR(h:hq_):MW X own lQ! ft:=vP!
def c7q(h:hq_):MW X own lQ_ ft:=vP_
def nW(ha:hq_)(O:MW X own ey_ fu):MW X own ez_ (Gs ft fu):=
 c5r vQ! λZ G H Q ρ M R st e k=>⟨G,ρ,M,_,st,e,λx M1 G1 H1 r1 x1 m1=>by
  cases x with
  |true=>exact lQ yB_
  |false=>exact lR yC!⟩
def d1c(ha:hq_)(O:MW X own eA! fu):MW X own eA_ (CC ft fu):=
 c5r vR! λZ G H Q ρ M R st e k=>⟨G,ρ,M,_,st,e,λx M1 G1 H1 r1 x1 m1=>by
  cases x with
  |false=>exact lR yB_
  |true=>exact lQ yC!⟩
def a6f(h:MW X own e ft):MT X own e ft:=⟨h.ok.pt⟩
def rG(h:hq_):MT X own eB! (Ly ft):=
 b2o (b7o h.ok) λZ G H Q ρ M R st e k=>⟨G,ρ,M,_,st,e,λx M1 G1 H1 r1 x1 m1=>k _ M1 G1 H1 r1 x1 m1⟩
def Mf(fa fb:WE):WE:=λρ M R=>wT fa ρ M λb M1=>if b then fb ρ M1 R else R as_ M1
def Vm(fa fb:WE):WE:=λρ M R=>wT fa ρ M λb M1=>if b then R D_ M1 else fb ρ M1 R
def Wc(fa:WE):WE:=λρ M R=>wT fa ρ M λb M1=>R (.bl (!b)) M1
def wA{op:BoolOp}(h:Z_):ME X own lS! fa:=vR_
def a1z(ha:Z_)(O:ME X own ey_ fb):ME X own ez_ (Mf fa fb):=
 eC vS! λZ G H Q ρ M R st e k=>⟨G,ρ,M,_,st,e,λd M1 v G1 H1 r1 x1 m1 q1=>by
  cases d<;>first|exact r1.elim|skip
  rename_i x;cases cX q1;refine jE!;cases x with
  |true=>exact lQ kw_
  |false=>exact lR yE_⟩
def c5u(ha:Z_)(O:ME X own eA! fb):ME X own eA_ (Vm fa fb):=
 eC vU! λZ G H Q ρ M R st e k=>⟨G,ρ,M,_,st,e,λd M1 v G1 H1 r1 x1 m1 q1=>by
  cases d<;>first|exact r1.elim|skip
  rename_i x;cases cX q1;refine jE!;cases x with
  |false=>exact lR kw_
  |true=>exact lQ yE_⟩
def c7z(ha:Z_):ME X own eB! (Wc fa):=
 eC (b8c ha.ok) λZ G H Q ρ M R st e k=>⟨G,ρ,M,_,st,e,λd M1 v G1 H1 r1 x1 m1 q1=>by
  cases d<;>first|exact r1.elim|skip
  cases cX q1;exact⟨_,rfl,k _ M1 _ G1 H1 r1 x1 m1 Ar.bl⟩⟩
def AE(ft:WT)(fa fb:WE):WE:=λρ M R=>ft ρ M λb M1=>if b then fa ρ M1 R else fb ρ M1 R
def c5v(hc:pc_)(ha:Z_)(O:ci_):ME X own lT_ (AE ft fa fb):=
 eC vV! λZ G H Q ρ M R st e k=>⟨G,ρ,M,_,st,e,λx M1 G1 H1 r1 x1 m1=>by
  cases x with
  |true=>exact lQ kw_
  |false=>exact lR kw_⟩
def Xf(fs:WA):WE:=λρ M R=>fs ρ M λds M1=>f_<=1000/\R dh! M1
def c7y{n:Nat}(h:ku_):ME X own (.Tuple es n pos) (Xf fs):=
 eC (b7z h.ok) λZ G H Q ρ M R st e k=>⟨G,ρ,M,_,st,e,λds M1 vs G1 H1 r1 x1 m1 q1=>⟨by rw[<-aI q1];exact gF r1.1,λp hp=>
  k _ M1 _ _ _ r1.2 (x1.trans (.ext yF_) m1) (m1.ext yF_) (eK (x1.sub.free hp) q1)⟩⟩
end
section
variable{P:xR!}{w:xM!}{K:zT!}{M:Mh}{G H:Hp}{p a:xh!}{o:HO}{c c0:Oc}
def MR.nocell(m:bR_)(h:cE!):M p=none:=by
 cases e:M p with
 |none=>rfl
 |some q=>exact absurd h (m.has kt_)
def XM.laid(s:K!)(hp:cE!):XM M G H pd! G e9!:=by
 show"#/";refine⟨e9_,λb u e=>by rw[aV (ne (s b u e))];exact s b u e,dm!,λb u e _=>by rw[aV (ne e)];exact e,bk_,bk_⟩
 .by_cases O:b=p
  .subst O;exact .inr hp
  .rw[bo_]at h;exact .inl h
 .by_cases O:b=p
  .subst O;rw[mup_same];simp
  .rw[bo_];exact h
def MR.laid(m:bR_)(hp:cE!)(s:K!)(h:Ha P w K G e9! p c):MR P w K pd! G e9!:=⟨λb q e=>by
 by_cases O:b=p
 .show"#*";exact⟨s.free hp,h⟩
 .rw[bo_]at e;obtain⟨B,Y⟩:=m.cell b q e;exact yJ!⟩
def XM.write(m:bR_)(s:K!)(ha:M a=some c0):XM M G H (Ay M a c) G cR!:=by
 have hG:=(m.cell a c0 ha).1;refine⟨e9_,λb u e=>by rw[aV (cD e hG)];exact s b u e,dm!,λb u e O=>?_,bk_,bk_⟩
 .have:b≠a:=λz=>by subst z;rw[ha]at O;cases O
  rw[aV this];exact e
 .by_cases O:b=a
  .subst O;exact .inl (by rw[ha];simp)
  .rw[bo_]at h;exact .inl h
 .by_cases O:b=a
  .subst O;rw[mup_same];simp
  .rw[bo_];exact h
def MR.write(m:bR_)(ha:M a=some c0)(h:Ha P w K G cR! a c):MR P w K (Ay M a c) G cR!:=⟨λb q e=>by
 by_cases O:b=a
 .show"#*";exact⟨(m.cell _ c0 ha).1,h⟩
 .rw[bo_]at e;obtain⟨B,Y⟩:=m.cell b q e;exact yJ!⟩
end
open Classical in
def Ge(kvs:g!)(d:D)(ep:Nat):Nat:=if(dt!).isSome then ep else ep+1
def FI(K:zT!)(G:Hp):Option D->Option Value->Prop
 |some d,some u=>Cu K G d u
 |none,none=>True
 |_,_=>False
section
variable{X:Cx}{J:List (Addr×Obj)}{Z:St}{G H:Hp}{s:zS!}{M:Mh}{a:xh!}{kvs:List (D×D)}{ep:Nat}{A:xz!}{E:Value->Shared->Prop}{d x:D}{k:MK}{u v:xL!}
def eF(I:d!)(m:bT_)(sub:K!)(e:cj!):∃es,H a=some ks_/\Hm X.prog X.w X.K G kvs es/\Oo s.heap a es ep/\dA!=false/\ae!<=big/\Ob X.prog X.w s.heap es.toArray fu!:=by obtain⟨es,B,Y⟩:=(m.cell a _ e).2;obtain⟨⟨h3,h4,h5⟩,_⟩:=(show Fj X.prog X.w H s.heap a ks_ from I.hok a _ B);exact⟨es,B,Y,h3,h4,h5,Y.ents I sub⟩
def a3w{t':Nat}{es au:Z!}{bd:Nat}(I:d!)(e:H a=some ks_)(D':Oo h' a au bd)(hs:uP_)(hn:dA!=false)(hl:au.length<=big):Inv X J Z (upd H a (dE a au bd)) {s with heap:=h',toks:=t'}:=by refine c4x I sV_ hs (let⟨o,h,_⟩:=D';pe_) ⟨⟨D',hn,hl⟩,let⟨o,h,_⟩:=D';pe_,yL!⟩;obtain⟨⟨o,z1,z2,z3⟩,z4⟩:=z;exact pf_
def a3y{Q:fj_}(hu:an!)(I:d!)(m:bT_)(sub:K!)(e:cj!)(r:bR!)(hk:bo!)
  (h:∀o s',Inv X J Z H s'->FI X.K G dt! o->Q o s'):wpAny e_ A (dictGet a u) Q E s:=by
 obtain⟨es,B,Y,h3,h4,h5,h6⟩:=eF I m sub e;refine d1o hu h3 h6 hs_ λtk=>h _ _ iJ! ?_;obtain⟨i1,i2,i3,i4⟩|⟨j,y,e',i1,i2,i3,i4,i5,i6,i7⟩:=Y.look hk
 .rw[i1,i2];exact iK_
 .rw[i1,i4];show FI X.K G (some y) (es[j]?.map (·.val));rw[i3];exact i5
def kput_len:∀(l:g!) (d x:D),(Aq l d x).length<=O!+1
 |[],_,_=>by simp[Aq]
 |(y,z)::l,d,x=>by
  unfold Aq;split
  .simp
  .have:=kput_len l d x;simp only[GS];omega
def c1a{Q:cS_}(hu:an!)(I:d!)(m:bT_)(sub:K!)(e:cj!)(r:bR!)(hk:bo!)(rv:ky!)(hl:dt_)
  (h:yL_):wpAny e_ A yn_ Q E s:=by
 obtain⟨es,B,Y,h3,h4,h5,h6⟩:=eF I m sub e;have ak:=LJ Y.1;refine d1n hu h3 h6 hs_ ht! λh' tk D' hs=>?_;have nv:=Y.put (x:=x) hk r rv;have v0:Xu (Mb fu! k) ep=Ge kvs d ep:=by
  unfold Ge;obtain⟨i1,i2,i3,i4⟩|⟨j,y,e',i1,i2,i3,i4,i5,i6,i7⟩:=Y.look hk
  .rw[i1,i2];simp[Xu]
  .rw[i1,i4];simp[Xu]
 rw[v0]at D';have lu:=LJ nv.1;have:=kput_len kvs d x;exact h _ _ (a3w I B D' hs h4 a!) ⟨_,bP,nv⟩
def b0w{Q:p!}(hu:ek!)(I:d!)(m:bT_)(sub:K!)(e:cj!)(r:bR!)(hk:bo!)(L:yM_)
  (h:∀o s',Inv X J Z H s'->Cu X.K G x o->Q o s'):wpAny e_ A (getItem aa_ u) Q E s:=by
 obtain⟨es,B,Y,h3,h4,h5,h6⟩:=eF I m sub e;have hT:=fv!;unfold getItem;refine IJ (GF (wpAny_sequenceKey hT c! (GF (IW (name:=tS!) hT PySem.slot_dict_getitem (IE PySem.slot_dict_getitem hT PySem.entry_dict_getitem ?_ (PySem.args_dict_getitem _ _))))));show wpAny e_ A.in1 kz_ _ _ s;refine GF kA!;rw[L]at ho;cases o with
 |none=>exact ho.elim
 |some o=>exact GH ⟨o,rfl,GH (h o s' I' ho)⟩
def sZ{Q:ef_}(hu:ek!)(I:d!)(m:bT_)(sub:K!)(e:cj!)(r:bR!)(hk:bo!)
  (h:∀s',Inv X J Z H s'->Q (dt!).isSome s'):wpAny e_ A (contains aa_ u) Q E s:=by
 obtain⟨es,B,Y,h3,h4,h5,h6⟩:=eF I m sub e;have hT:=fv!;unfold contains;refine IJ (GF (OB hT OC.lookup ?_));rw[GL (by rw[beq_builtin_none];exact HF)];refine GF (wpAny_callSpecialUnlessNone?_slot (name:=Str.ofString "__contains__") hT OC (IE OC hT PySem.entry_dict_contains ?_ (PySem.args_dict_contains _ _)));show wpAny e_ A.in1 kz_ _ _ s;refine GF kA!;cases o with
 |none=>
  have hn:kget kvs d=none:=by
   cases q:kget kvs d with
   |none=>rfl
   |some y=>rw[q]at ho;exact ho.elim
  have h:=h s' I';rw[hn]at h;exact GF (wpAny_pendingKey_other h4 (GH yN!))
 |some o=>
  have hn:(dt!).isSome=true:=by
   cases q:kget kvs d with
   |none=>rw[q]at ho;exact ho.elim
   |some y=>rfl
  have h:=h s' I';rw[hn]at h;exact GH yN!
def b0v{Q:cS_}(hu:ek!)(I:d!)(m:bT_)(sub:K!)(e:cj!)(r:bR!)(hk:bo!)(rv:ky!)(hl:dt_)
  (h:yL_):wpAny e_ A (setItem aa_ u v) Q E s:=by
 obtain⟨es,B,Y,h3,h4,h5,h6⟩:=eF I m sub e;have hT:=fv!;unfold setItem;refine IJ (GF (wpAny_sequenceKey hT c! (GF (IW (name:=Str.ofString "__setitem__") hT PySem.slot_dict_setitem (IE PySem.slot_dict_setitem hT PySem.entry_dict_setitem ?_ (PySem.args_dict_setitem _ _ _))))));refine GF (NJ hT ?_);show wpAny e_ A.in1 (dictSet a u v>>=_) _ _ s;exact GF (c1a (A:=A.in1) hu I m sub e r hk rv hl λau s' I' c'=>GH ⟨.none,rfl,GH (h au s' I' c')⟩)
def c4z{Q:p!}(hu:ek!)(I:d!)(m:bT_)(sub:K!)(e:cj!)(r:bR!)(hk:bo!)
  (h:∀o s',Inv X J Z H s'->Cu X.K G ((dt!).getD .non) o->Q o s'):wpAny e_ A (call yO_ [dP!,u]) Q E s:=by
 obtain⟨es,B,Y,h3,h4,h5,h6⟩:=eF I m sub e;refine IE NC h3.typeIs PySem.F.entry_dict_get ?_ (PySem.F.args_dict_get_2 _ _);show wpAny e_ A.in1 kz_ _ _ s;refine GF kA!;cases q:kget kvs d with
 |none=>
  rw[q]at ho;cases o with
  |none=>
   have h:=h .none s' I';rw[q]at h;exact GF (wpAny_missed_other h4 (GH ⟨.none,rfl,h ⟨V.non,Ar.non,rfl⟩⟩))
  |some o=>exact ho.elim
 |some y=>
  rw[q]at ho;cases o with
  |none=>exact ho.elim
  |some o=>
   have h:=h o s' I';rw[q]at h;exact GH yP_
def c4y{Q:p!}(hu:ek!)(I:d!)(m:bT_)(sub:K!)(e:cj!)(r:bR!)(hk:bo!)(rv:ky!)
  (h:∀o s',Inv X J Z H s'->Cu X.K G ((dt!).getD x) o->Q o s'):wpAny e_ A (call yO_ [dP!,u,v]) Q E s:=by
 obtain⟨es,B,Y,h3,h4,h5,h6⟩:=eF I m sub e;refine IE NC h3.typeIs PySem.F.entry_dict_get ?_ (PySem.F.args_dict_get_3 _ _ _);show wpAny e_ A.in1 kz_ _ _ s;refine GF kA!;cases q:kget kvs d with
 |none=>
  rw[q]at ho;cases o with
  |none=>
   have h:=h v s' I';rw[q]at h;exact GF (wpAny_missed_other h4 (GH ⟨v,rfl,h rv⟩))
  |some o=>exact ho.elim
 |some y=>
  rw[q]at ho;cases o with
  |none=>exact ho.elim
  |some o=>
   have h:=h o s' I';rw[q]at h;exact GH yP_
def yM{Q:p!}(hu:ek!)(I:d!)(m:bT_)(sub:K!)(e:cj!)(r:bR!)(hk:bo!)(rv:ky!)(hl:dt_)
  (hs:∀y o s',kget kvs d=some y->Inv X J Z H s'->Cu X.K G y o->Q o s')
  (hn:kget kvs d=none->∀au s',Inv X J Z kB! s'->Ha X.prog X.w X.K G kB! a (.dct o6! ba_)->Q v s'):wpAny e_ A (call (.builtin "dict.setdefault") [dP!,u,v]) Q E s:=by
 obtain⟨es,B,Y,h3,h4,h5,h6⟩:=eF I m sub e;have ak:=LJ Y.1;have hT:=fv!;refine IE QQ hT PySem.F.entry_dict_setdefault ?_ (PySem.F.args_dict_setdefault_3 _ _ _);unfold Builtin.«dict.setdefault» yQ!;refine GF pj!;dsimp only;rw[GL (by rw[h4];exact HF)];obtain⟨i1,i2,i3,i4⟩|⟨j,y,e',i1,i2,i3,i4,i5,i6,i7⟩:=Y.look hk
 .refine GF (qA (A:=A.in1) hu h3 h6 hs_ ht! (λj e tk q=>by rw[i1]at q;cases q) λh' tk _ D' bu=>GH ⟨_,rfl,hn i2 _ _ yR! ⟨_,bP,?_⟩⟩)
  .rw[GW,IM];omega
  .have:=Y.put (x:=x) hk r rv;rw[i1]at this;exact this
 .exact GF (qA (A:=A.in1) hu h3 h6 hs_ ht! (λj' e tk q q2=>by
   rw[i1]at q;cases q;rw[i3]at q2;cases q2;exact GH ⟨_,rfl,hs y _ _ i4 iJ! i5⟩) λh' tk q=>by rw[i1]at q;cases q)
def c9d{Q:p!}(hu:ek!)(I:d!)(m:bT_)(sub:K!)(e:cj!)(r:bR!)(hk:bo!)(L:yM_)
  (h:∀au o s',Inv X J Z kB! s'->Ha X.prog X.w X.K G kB! a (.dct (Gm kvs d) ba_)->Cu X.K G x o->Q o s'):wpAny e_ A (call (.builtin "dict.pop") [dP!,u]) Q E s:=by
 obtain⟨es,B,Y,h3,h4,h5,h6⟩:=eF I m sub e;have hT:=fv!;obtain⟨i1,i2,i3,i4⟩|⟨j,y,e',i1,i2,i3,i4,i5,i6,i7⟩:=Y.look hk
 .rw[i2]at L;cases L
 .rw[i4]at L;cases L;refine IE PySem.F.slot_dict_pop hT PySem.F.entry_dict_pop ?_ (PySem.F.args_dict_pop_2 _ _);unfold Builtin.«dict.pop» yQ!;refine GF pj!;dsimp only;have fin:wpAny e_ A.in1 yq! (λah s'=>∃e o,ah=some e/\e.val=o/\Q o s') E s:=by
   refine c8p (A:=A.in1) hu h3 h6 hs_ ht! i1 i3 λh' tk D' bu=>⟨e',_,rfl,rfl,h _ _ _ yR! ⟨_,bP,?_⟩ i5⟩
   .exact HR (List.length_eraseIdx_le _ _) h5
   .rw[i7];exact Y.del
  obtain⟨o,ho,_,hd⟩:=id h3;have b9:es.toArray.isEmpty=false:=by
   cases es with
   |nil=>simp at i3
   |cons _ _=>rfl
  by_cases hp:(keyPart u).isSome=true
  .rw[GU hp];refine GF ab_;rw[GL HF];refine GF yS!;subst q1 q2;exact GF yS_
  .rw[GL hp];refine GF (KL ho hd (GF ab_));rw[b9,GL HF];refine GF yS!;subst q1 q2;exact GF yS_
end
section
variable{X:Cx}{J:List (Addr×Obj)}{Z:St}{H:Hp}{s:zS!}
def a5l{ds es:b_}{A:xz!}(I:d!)(qa:jX!)(qb:Fz X.K H b ws)(rd:g4!)(re:g4_)(hu:an!)
  (h:jZ_):SeqAt.RcNeAt A s aa_ dS! (!Iu ds es):=by
 obtain⟨us,rv,p1,_⟩:=I.tuple qa;obtain⟨us',ao,p2,_⟩:=I.tuple qb;have B:=aI rd;have Y:=aI re;have h3:=dJ!;have h4:=j0!;have z:=SeqAt.RcNeAt.tuples (A:=A) (e:=j0_) p1 p2 hu j1!;have e:wI!=Iu ds es:=by
  show"#1"
  .rw[hl,Nat.min_self,<-hl,j1_,hl];simp
  .rw[j2!];have:(f_==ae!)=false:=by simpa using hl
   rw[this,PM]
 rw[e]at z;exact z
def a9e{ds es:b_}{A:xz!}(I:d!)(qa:oq_)(qb:Et X.K H b ws)(rd:g4!)(re:g4_)(hu:an!)
  (h:jZ_):SeqAt.RcNeAt A s aa_ dS! (!Iu ds es):=by
 show"!>";have h4:=j0!;by_cases hl:f_=ae!
 .have z:=SeqAt.RcNeAt.lists (A:=A) (e:=j0_) p1.isList p2.isList n1_ hu j1!;rw[GQ,<-h3,<-B,j1_]at z;exact z
 .rw[j2!];exact SeqAt.RcNeAt.lists_lengths p1.isList p2.isList wI_ hu
def b7c(I:d!){A:xz!}(n:cf!)(n':fg_)(hu:an!)(r:ec!)(r':g5!)(ru:bs!)(ap:g5_)(hT:∀xs ys,d=.tup xs->d'=.tup ys->SeqAt.RcNeAt A s u u' kB_)(hL:∀xs ys,d=.lst xs->d'=.lst ys->SeqAt.RcNeAt A s u u' kB_):SeqAt.RcNeAt A s u u' kB_:=by
 show"!k"
 all_goals first|exact hT _ _ rfl rfl|exact hL _ _ rfl rfl|(unfold Eo;(try simp only[OA,JY]);with_reducible first|exact .none_none|exact .same _|exact .none_bool _|exact .none_int _ _|exact .none_str _ _|exact .none_tuple ‹_› hu|exact .none_list ‹_› hu|exact .bool_none _|exact .bool_bool _ _|exact .bool_int _ _ _|exact .bool_str _ _ _|exact .bool_tuple _ ‹_› hu|exact .bool_list _ ‹_› hu|exact .int_none _ _|exact .int_bool _ _ _|exact .int_int _ _ _ _|exact .int_str _ _ _ _|exact .int_tuple _ _ ‹_› hu|exact .int_list _ _ ‹_› hu|exact .str_none _ _|exact .str_bool _ _ _|exact .str_int _ _ _ _|exact .str_str _ _ _ _|exact .str_tuple _ _ ‹_› hu|exact .str_list _ _ ‹_› hu|exact .tuple_none ‹_› hu|exact .tuple_bool _ ‹_› hu|exact .tuple_int _ _ ‹_› hu|exact .tuple_str _ _ ‹_› hu|exact .tuple_list ‹_› ‹_› hu|exact .list_none ‹_› hu|exact .list_bool _ ‹_› hu|exact .list_int _ _ ‹_› hu|exact .list_str _ _ ‹_› hu|exact .list_tuple ‹_› ‹_› hu)
def b7d(I:d!)(d d':D){A:xz!}(n:cf!)(n':fg_)(hu:wK!)(r:ec!)(r':g5!)(ru:bs!)(ap:g5_):SeqAt.RcNeAt A s u u' kB_:=
 b7c I n n' a! r r' ru ap (λxs ys e e'=>by
  subst e e';obtain⟨a,vs,rfl,q,rr⟩:=bN r;obtain⟨b,ws,rfl,q',bx⟩:=bN r';cases ru;cases ap;unfold Be at n n';unfold Hn at hu;unfold Eo;exact a5l I q q' rr bx a! λus us' rv ao=>kG I xs ys A.in1 vs ws us us' n n' fh_ rr bx rv ao) (λxs ys e e'=>by
  subst e e';obtain⟨a,vs,rfl,q,rr⟩:=bJ r;obtain⟨b,ws,rfl,q',bx⟩:=bJ r';cases ru;cases ap;unfold Be at n n';unfold Hn at hu;unfold Eo;exact a9e I q q' rr bx a! λus us' rv ao=>kG I xs ys A.in1 vs ws us us' n n' fh_ rr bx rv ao)
def Zg(K:zT!):R2:=λx y H Q=>∃dx dy,Ar K H dx x/\Ar K H dy y/\Be dx=true/\Be dy=true/\Hn dx<=40/\Q (.bl (!Eo dx dy)) H
def nS(hu:aH_):Gq X sc_ (Zg X.K):=by intro J s Z H x y v u Q I rx ry h;obtain⟨dx,dy,r1,r2,n1,n2,hd,q⟩:=h;exact b7d I dx dy n1 n2 a! r1 r2 rx ry X.prog X.w X.xe _ wL!
def Eb:D->D->Option D:=λx y=>if Be x&&Be y&&decide (Hn x<=40)then some (.bl (!Eo x y))else none
def rC{K:zT!}:Ic K (Zg K) Eb:=by
 show"!0";unfold Eb at e;show"!6"
 .show"!M";exact wM!
 .cases e
open Classical in
def Ue(K:zT!)(H:Hp)(x:D)(u:xL!):Bool:=decide (∃d,Cu K H d u/\Be d=true/\Eo d x=true)
open Classical in
def c0k(I:d!)(r:Cu X.K H d u)(n:cf!):Ue X.K H x u=Eo d x:=by
 unfold Ue;cases h:Eo d x with
 |true=>exact HN ⟨d,r,n,h⟩
 |false=>
  refine GZ ?_;rintro⟨d',⟨v',r',ap⟩,n',h'⟩;obtain⟨v,r,ru⟩:=r;have:=ru.inj ap;subst this;rw[a1h I d d' v n n' r r']at h;rw[h]at h';cases h'
def qH(I:d!):∀{ds:b_} {vs:k!} {us:h_},Am X.K H ds vs->Ba vs us->Bu ds=true->us.any (Ue X.K H x)=ds.any λd=>Eo d x
 |[],vs,us,r,rv,_=>by cases cU r;cases rv;rfl
 |d::ds,vs,us,r,rv,n=>by
  obtain⟨v,t,rfl,r1,r2⟩:=bQ r;unfold Bu at n;rw[HK]at n;cases rv with
  |cons px sf=>rw[KQ,KQ,c0k I ⟨v,r1,px⟩ n.1,qH I r2 sf n.2]
def pG(I:d!){A:xz!}(rx:Ar X.K H x y)(ry:Bp y v)(nx:Be x=true):∀{ds:b_} {vs:k!} {us:h_},Am X.K H ds vs->Ba vs us->Bu ds=true->A.units+Dz ds<cLine->∀u∈us,SeqAt.EqAt A s u v (Ue X.K H x u)
 |[],vs,us,r,rv,_,_=>λu hu=>by cases cU r;cases rv;cases hu
 |d::ds,vs,us,r,rv,n,hd=>λu hu=>by
  obtain⟨z,t,rfl,r1,r2⟩:=bQ r;unfold Bu at n;rw[HK]at n;unfold Dz at hd;cases rv with
  |cons px sf=>
   obtain rfl|hu:=GJ.mp hu
   .rw[c0k I ⟨z,r1,px⟩ n.1];exact c0n I d x A z y _ _ n.1 nx a! r1 rx px ry
   .exact pG I rx ry nx r2 sf n.2 a! u hu
def Zh(K:zT!)(neg:Bool):R2:=λx y H Q=>∃p ys dx ds,y=.ref p/\pl!/\Ar K H dx x/\Am K H ds ys/\Be dx=true/\Bu ds=true/\Dz ds<=40/\Q (.bl (if neg then !(ds.any λd=>Eo d dx)else ds.any λd=>Eo d dx)) H
def c7e(hu:aH_):Gq X i7! (Zh X.K false):=by
 intro J s Z H x y v u Q I rx ry h;obtain⟨p,ys,dx,ds,rfl,hq,r1,r2,n1,n2,hd,q⟩:=h;cases ry;obtain hq|hq:=hq
 .show"!R";refine SeqAt.in_listAt fw! pl.isList kC! eW_;rw[kC_,kD_];exact q
 .show"!y";refine SeqAt.in_tupleAt fw! pl kC! eW_;rw[kC_,kD_];exact q
def b4p(hu:aH_):Gq X pl_ (Zh X.K true):=by
 intro J s Z H x y v u Q I rx ry h;obtain⟨p,ys,dx,ds,rfl,hq,r1,r2,n1,n2,hd,q⟩:=h;cases ry;obtain hq|hq:=hq
 .show"!R";refine SeqAt.notIn_listAt fw! pl.isList kC! eW_;rw[kC_,kD_];exact q
 .show"!y";refine SeqAt.notIn_tupleAt fw! pl kC! eW_;rw[kC_,kD_];exact q
def Zi(P:xR!)(w:xM!)(K:zT!)(neg:Bool):R2:=λx y H Q=>∃(M:Mh) (G:Hp) (a:xh!) (kvs:g!) (ep:Nat) (d:D) (k:MK),y=.ref a/\Bg G H/\MR P w K M G H/\M a=some hr_/\Ar K G d x/\Dm d=some k/\Q (.bl (if neg then !(dt!).isSome else(dt!).isSome)) H
def c7f(hu:aH_):Gq X i7! (Zi X.prog X.w X.K false):=by intro J s Z H x y v u Q I rx ry h;obtain⟨M,G,a,kvs,ep,d,k,rfl,sub,m,e,r,hk,q⟩:=h;cases ry;exact GF yV_
def b4q(hu:aH_):Gq X pl_ (Zi X.prog X.w X.K true):=by intro J s Z H x y v u Q I rx ry h;obtain⟨M,G,a,kvs,ep,d,k,rfl,sub,m,e,r,hk,q⟩:=h;cases ry;exact GF yV_
def Xm(P:xR!)(w:xM!)(K:zT!)(neg:Bool):R2:=λx y H Q=>Zh K neg x y H Q\/Zi P w K neg x y H Q
def gN(hu:aH_):Gq X i7! (Xm X.prog X.w X.K false):=(c7e hu).or (c7f hu)
def mH(hu:aH_):Gq X pl_ (Xm X.prog X.w X.K true):=(b4p hu).or (b4q hu)
def Qi(M:Mh):D->Option aF_
 |.lst xs=>some xs
 |.tup xs=>some xs
 |.fn a=>match M a with|some (.lst xs)=>some xs|_=>none
 |_=>none
def a0u{K:zT!}{M:Mh}{G H:Hp}(sub:K!)(m:bR_)(r:cb_)(e:Qi M d=some xs):∃p ys,v=.ref p/\pl!/\Am K G xs ys:=by
 cases d<;>first|(cases e;done)|skip
 .cases e;show"!Y";exact⟨p,vs,rfl,.inr j3_,rr⟩
 .cases e;obtain⟨p,vs,rfl,q,rr⟩:=bJ r;exact⟨p,vs,rfl,.inl (sub.seq q),rr⟩
 .rename_i a;cases fA r;simp only[Qi]at e;show"!6"
  .rename_i ys hy;cases e;obtain⟨_,vs,B,Y⟩:=m.cell a _ hy;exact⟨a,vs,rfl,.inl (Et.of B),Y⟩
  .cases e
def Ir(neg:Bool)(M:Mh)(x y:D):Option D:=match y with
 |.fn a=>match M a with
  |some (.dct kvs _)=>(Dm x).bind λ_=>some (.bl (if neg then !(kget kvs x).isSome else(kget kvs x).isSome))
  |_=>inS M x y
 |_=>inS M x y
where inS (M:Mh) (x y:D):Option D:=(Qi M y).bind λds=>if Be x&&Bu ds&&decide (Dz ds<=40)then some wQ_ else none
def eS{K:zT!}{neg:Bool}:Wy P w K (Xm P w K neg) (Ir neg):=by
 intro x y dx dy d M G H Q sub m rx ry e k;have seq:Ir.inS neg M dx dy=some d->Xm P w K neg x y H Q:=λe=>by
  obtain⟨ds,e1,e2⟩:=GG.mp e;split at e2
  .rename_i h;rw[HK,HK,HQ]at h;cases e2;obtain⟨p,ys,rfl,q,rr⟩:=a0u sub m ry e1;exact .inl ⟨p,ys,dx,ds,rfl,q,rx.mono sub,rr.mono sub,h.1.1,h.1.2,h.2,d9_⟩
  .cases e2
 unfold Ir at e;show"!6"
 .rename_i a;show"!6"
  .show"#8";cases e2;cases fA ry;exact .inr ⟨M,G,a,kvs,ep,dx,kk,rfl,sub,m,hM,rx,e1,d9_⟩
  .exact seq e
 .exact seq e
def AX(P:xR!)(w:xM!)(K:zT!):R2:=λx y H Q=>∃(M:Mh) (G:Hp) (a:xh!) (kvs:g!) (ep:Nat) (d z:D) (k:MK),x=.ref a/\Bg G H/\MR P w K M G H/\M a=some hr_/\Ar K G d y/\Dm d=some k/\kget kvs d=some z/\∀v,Ar K G z v->Q v H
def c8i(hu:aH_):Vx X (AX X.prog X.w X.K):=by
 intro value f8 J s Z H x y v u Q I rx ry h hs;obtain⟨M,G,a,kvs,ep,d,z,k,rfl,sub,m,e,r,hk,hz,q⟩:=h;cases rx;obtain⟨es,B,Y,h3,h4,h5,h6⟩:=eF I m sub e;unfold subscriptTail;refine GF ?_;rw[getitemInPython_of_ne h3.typeIs.not_modules];refine GF (OB h3.typeIs PySem.F.slot_dict_getitem.lookup ?_);have fin:wpAny e_ X.A (subscripted f8 false aa_ u) (λr dr=>wpAny e_ X.A (letTemporaryGo value aa_ r>>=λ_=>pure r) aJ! X.xe dr) X.xe s:=by
  rw[hs];exact wpAny_operating (b0w (A:=X.A) a! I m sub e ⟨_,r,ry⟩ hk hz λo s' I' ⟨v',r',ap⟩=>GF (wpAny_letTemporaryGo (GH ⟨v',H,I',ap,q v' r'⟩)))
 first
  |exact GH je!
  |exact GF (GH je!)
  |exact GF fin
def AY(P:xR!)(w:xM!)(K:zT!):R2:=λx y H Q=>EB K x y H Q\/AX P w K x y H Q
def bG(hu:aH_):Vx X (AY X.prog X.w X.K):=aH.or (c8i hu)
def Bt(M:Mh)(x y:D):Option D:=match x with
 |.fn a=>match M a with
  |some (.dct kvs _)=>(fx!).bind λ_=>kget kvs y
  |some (.lst xs)=>match y with|.int i=>Db xs i|_=>none
  |_=>none
 |_=>Ai x y
def bF{K:zT!}:Wy P w K (AY P w K) Bt:=by
 show"!@";unfold Bt at e;show"!6"
 .rename_i a;cases fA rx;show"!6"
  .show"#8";exact .inr ⟨M,G,a,kvs,ep,dy,d,kk,rfl,sub,m,hM,ry,e1,e2,λv r=>k v G H aO_ r⟩
  .rename_i xs hM;show"!6"
   .rename_i i;cases aX ry;show"!{";obtain⟨v,e6,r6⟩:=oT Y e;exact .inl (.inl ⟨a,vs,i,v,rfl,rfl,kG!,e6,k v G H aO_ r6⟩)
   .cases e
  .cases e
 .exact .inl (aJ sub rx ry e k)
def Iv(M:Mh)(x y:D):Option D:=match x with
 |.fn a=>match M a,y with
  |some (.lst xs),.lst ys=>if i_+M_<=big then some n3_ else none
  |_,_=>none
 |_=>Al x y
def iM{K:zT!}:Wy P w K (Sb K) Iv:=by
 show"!@";unfold Iv at e;show"!6"
 .rename_i a;cases fA rx;show"!6"
  .rename_i xs ys hM;show"!6"
   .show"!?";show"!{";obtain⟨b,ws,rfl,qb,rb⟩:=bJ ry;exact .inr (.inr (.inr (.inr ⟨a,b,vs,ws,rfl,rfl,kG!,sub.seq qb,by rw[<-aI Y,<-aI rb];exact cP hl,λp hp=>k _ _ _ jI_ (dQ gW! (cS Y rb))⟩)))
   .cases e
  .cases e
 .exact bI sub rx ry e k
end
def Dw{α:Type}(o:Option α)(R:pm_):Prop:=match o with|some a=>R a|none=>False
def cG{α:Type}{o:Option α}{R:pm_}(h:Dw o R):∃a,o=some a/\R a:=by
 cases o with
 |none=>exact h.elim
 |some a=>exact⟨a,rfl,h⟩
def Gz(C:xh!)(x:Str)(M:Mh)(d:D):Option D:=match d with
 |.fn a=>match M a with
  |some (.obj C' fs)=>if C'=C then fs.lookup x else none
  |_=>none
 |_=>none
def Bl(f:Str)(v:D):List cf_->List cf_
 |[]=>[(f,v)]
 |(g,x)::r=>if g=f then(g,v)::r else(g,x)::Bl f v r
def a7j{K:zT!}{G:Hp}{x:Str}:∀{fs:aP!} {vs:es_},Oa K G fs vs->fs.lookup x=some d->∃v,vs.lookup x=some v/\Ar K G d v
 |_,_,.nil,e=>by simp at e
 |(a,b)::r,(a',b')::r',.cons ⟨B,Y⟩ t,e=>by
  have B:a=a':=B;subst B;cases L:(x==a)with
  |true=>
   simp only[IF,L]at e ⊢;cases e;exact⟨b',rfl,Y⟩
  |false=>
   simp only[IF,L]at e ⊢;exact a7j t e
def a7i{K:zT!}{G:Hp}{x:Str}:∀{fs:aP!} {vs:es_},Oa K G fs vs->fs.lookup x=none->vs.lookup x=none
 |_,_,.nil,_=>rfl
 |(a,b)::r,(a',b')::r',.cons ⟨B,Y⟩ t,e=>by
  have B:a=a':=B;subst B;cases L:(x==a)with
  |true=>simp only[IF,L]at e;cases e
  |false=>
   simp only[IF,L]at e ⊢;exact a7i t e
def b3e{K:zT!}{G:Hp}{x:Str}(r:cb_):∀{fs:aP!} {vs:es_},Oa K G fs vs->Oa K G (Bl x d fs) (Ko x v vs)
 |_,_,.nil=>.cons ⟨rfl,r⟩ .nil
 |(a,b)::fs,(a',b')::vs,.cons ⟨B,Y⟩ t=>by
  have B:a=a':=B;subst B;show Oa K G (if a=x then(a,d)::fs else X_::Bl x d fs) (if a=x then(a,v)::vs else(a,b')::Ko x v vs);by_cases e:a=x
  .rw[GU e,GU e];exact .cons ⟨rfl,r⟩ t
  .rw[GL e,GL e];exact .cons ⟨rfl,Y⟩ (b3e r t)
section
variable{X:Cx}{own:List Nat}{e o a b:Expr}{es:List Expr}{pos ag ab p:Pos}{f fa fb fo:WE}{fs:WA}{x m:Str}{C:xh!}
def As(C:xh!)(x:Str)(f:WE):WE:=λρ M R=>f ρ M λd M1=>Dw (Gz C x M1 d) λv=>R v M1
def bE(c:dO_)(n:Ef X.K C x)(h:bS!)(O:attributeBase e x X.env ex!=eval e X.env:=by rfl):ME X own (.Attribute e x pos) (As C x f):=
 eC (c6y h.ok O) λZ G H Q ρ M R st e k=>⟨G,ρ,M,_,st,e,λd M1 v G1 H1 r1 x1 m1 q1=>by
  obtain⟨z,B,Y⟩:=cG r1;cases d<;>first|(cases B;done)|skip
  rename_i ad;cases fA q1;simp only[Gz]at B;split at B
  .rename_i C' fs hM;split at B
   .rename_i hC;subst hC;obtain⟨_,dx,vs,h3,h4⟩:=m1.cell ad _ hM;obtain⟨u,h5,h6⟩:=a7j h4 B;exact⟨ad,_,dx,vs,u,rfl,h3,c,n,h5,k z M1 u G1 H1 Y x1 m1 h6⟩
   .cases B
  .cases B⟩
def Ru(P:xR!)(w:xM!)(K:zT!)(r:ct_)(g:hw_):Prop:=∀{vs:k!} {ds:b_} {d:D} {M:Mh} {G H:Hp} {Q:VK},Bg G H->MR P w K M G H->Am K G ds vs->g M ds=some d->jC_->r vs H Q
def Mv.toM{K:zT!}{r:ct_}{g:W_}(h:Mv K r g):Ru P w K r pb!:=λs _ r e k=>h s r e k
nonrec def w1(g:hw_)(fs:WA):WE:=λρ M R=>fs ρ M λds M1=>Dw (g M1 ds) λd=>R d M1
def pK{id:String}{r:ct_}{g:hw_}(hc:mQ_)(hd:yY_)(hg:R!)(hm:cr!)(hv:mR!)(ha:hx!)(hn:cr_:=by decide)
  (be:F!:=by decide)(he:ak_:=by rfl)(av:aT!:=by rfl):ME X own bg! (w1 g fs):=
 eC vZ_ λZ G H Q ρ M R st e' k=>⟨G,ρ,M,_,st,e',λds M1 vs G1 H1 r1 x1 m1 q1=>by
  obtain⟨d,B,Y⟩:=cG r1;exact hd x1.sub m1 q1 B λv G2 H2 x2 q2=>k d M1 v G2 H2 Y yZ! (m1.ext x2) q2⟩
def zL{T:String}{r:ct_}{g:hw_}(hc:mR_)(hd:yY_)(hg:R!)(hm:cr!)(hv:iV_)(ha:hx!)(hn:cr_:=by decide)
  (be:F!:=by decide)(he:ak_:=by rfl)(av:aT!:=by rfl):ME X own bg! (w1 g fs):=
 eC v0_ λZ G H Q ρ M R st e' k=>⟨G,ρ,M,_,st,e',λds M1 vs G1 H1 r1 x1 m1 q1=>by
  obtain⟨d,B,Y⟩:=cG r1;exact hd x1.sub m1 q1 B λv G2 H2 x2 q2=>k d M1 v G2 H2 Y yZ! (m1.ext x2) q2⟩
def Pe(M:Mh):List D->Option D
 |[.str x]=>Bm [.str x]
 |[d]=>(Qi M d).map λxs=>.int i_
 |_=>none
def b0x{K:zT!}:Ru P w K we_ Pe:=by
 show"#!";unfold Pe at e;show"!6"
 .exact eO sub r e k
 .obtain⟨xs,e1,rfl⟩:=GR.mp e;show"!l";refine⟨ff_,i_,rfl,?_,d8_⟩;rw[aI rr];exact q.elim (λz=>.inl y0_) λz=>.inr y0_
 .cases e
def Vg(M:Mh):List D->Option D
 |[d]=>(Qi M d).bind λxs=>if i_<=big then some J_ else none
 |_=>none
def c5b{K:zT!}:Ru P w K (λxs H Q=>∃p ys,xs=gx_/\pl!/\∀l,H l=none->Q (.ref l) na_) Vg:=by
 show"#!";unfold Vg at e;show"!6"
 .obtain⟨xs,e1,e2⟩:=GG.mp e;split at e2
  .cases e2;show"!l";exact⟨p,ys,rfl,q,λl hl=>k _ _ _ (Ce.laid sub hl) (dQ (sub.free hl) rr)⟩
  .cases e2
 .cases e
def Hr(fs:WA):WE:=λρ M R=>fs ρ M λds M1=>f_<=1000/\∀p,M1 p=none->R x! (Ay M1 p cD_)
def pH(h:ku_):ME X own mJ! (Hr fs):=
 eC nZ_ λZ G H Q ρ M R st e k=>⟨G,ρ,M,_,st,e,λds M1 vs G1 H1 r1 x1 m1 q1=>⟨by rw[<-aI q1];exact gF r1.1,λp hp=>
  k _ _ _ _ _ (r1.2 p (m1.nocell hp)) (x1.trans (.laid x1.sub hp) m1) (m1.laid hp x1.sub ⟨vs,bP,q1⟩) Ar.fn⟩⟩
def Ja(M:Mh)(d:D):Option (Addr×List D):=match d with
 |.fn p=>match M p with|some (.lst xs)=>some (p,xs)|_=>none
 |_=>none
def qE{K:zT!}{M:Mh}{G H:Hp}{q:Addr×List D}(m:bR_)(r:cb_)(e:Ja M d=some q):d=.fn q.1/\v=.ref q.1/\M q.1=some (.lst q.2)/\∃vs,H q.1=some dh_/\Am K G q.2 vs:=by
 cases d<;>first|(cases e;done)|skip
 show"#B";simp only[Ja]at e;show"!6"
 .rename_i xs hM;cases e;exact⟨rfl,rfl,hM,(m.cell p _ hM).2⟩
 .cases e
def Ek(M:Mh)(d:D):Option (Addr×List ay_×Nat):=match d with
 |.fn p=>match M p with|some (.dct kvs ep)=>some kJ_|_=>none
 |_=>none
def cY{K:zT!}{M:Mh}{G:Hp}{q:y1_}(r:cb_)(e:Ek M d=some q):d=.fn q.1/\v=.ref q.1/\M q.1=some po!:=by
 cases d<;>first|(cases e;done)|skip
 show"#B";simp only[Ek]at e;show"!6"
 .rename_i xs ep hM;cases e;exact⟨rfl,rfl,hM⟩
 .cases e
def Jz(fo fa:WE):WE:=λρ M R=>fo ρ M λd M1=>Dw po_ λ_=>fa ρ M1 λv M2=>Dw (Ja M2 d) λq=>kK!<big/\R .non y2_
def uE(ho:ck_)(ha:Z_)(bz:jN_:=by rfl)(gj:((oy_).all cy!&&(cy_).all cz!
   &&decide oz!)=true:=by rfl) (dh:cx_:=by rfl)
  (df:attributeBase o "append" X.env cZ_=eval o X.env:=by rfl) (gk:g1!:=by rfl):ME X own (.Call (.Attribute o "append" ag) [a] [] ab) (Jz fo fa):=
 eC (zC LD PySem.F.slot_list_append PySem.F.type_list_append zJ ho.ok (dC ha.ok fB bz) df gj dh bz gk) λZ G H Q ρ M R st e k=>
  ⟨G,ρ,M,_,st,e,λd M1 v G1 H1 r1 x1 m1 q1=>by
   obtain⟨c1,e1,r1⟩:=cG r1;obtain⟨rfl,rfl,_,yr,hH,_⟩:=qE m1 q1 e1;refine⟨.inl ⟨rfl,yr,Et.of hH⟩,G1,ρ,M1,_,kv_,r1,λz M2 u G2 H2 r2 x2 m2 q2=>?_⟩;obtain⟨⟨p2,xs2⟩,e2,r2⟩:=cG r2;obtain⟨z1,z2,z3,vs,B,Y⟩:=qE m2 bS_ e2;cases z2;refine⟨_,vs,u,rfl,rfl,B,by rw[<-aI Y];exact HH r2.1 jS!,?_⟩;exact k _ _ _ _ _ r2.2 ((ci!).trans (.write m2 x2.sub z3) m2) (m2.write z3 ⟨_,bP,cS Y (Am.cons q2 Am.nil)⟩) Ar.non⟩
def kJ{J:l_}{Z:St}{G H:Hp}{s:zS!}{M:Mh}{q:y1_}(I:d!)(m:bT_)(sub:K!)(e:M q.1=some po!):
  s.TypeIs (.ref q.1) "dict"/\∀b,Value.ref q.1=.ref b->∃ob,s.heap.get? b=some ob/\ob.dict=none:=by
 obtain⟨es,_,_,h3,_⟩:=eF I m sub e;refine⟨fv!,λb z=>?_⟩;cases z;obtain⟨o,h,hc,_⟩:=h3;exact⟨o,h,hc.2.1⟩
def ME.run{J:l_}{Z:St}{G H:Hp}{ρ:Ad}{M:Mh}{R:v_}{Q:p!}(h:bS!)(I:d!)(st:yz_)(hf:ho_)
  (k:∀d M' v G' H' u s',R d M'->XM M G H M' G' H'->MR X.prog X.w X.K M' G' H'->Ar X.K G' d v->Inv X J Z H' s'->Bp v u->Q u s'):wpAny e_ X.A ex! Q X.xe s:=
 cZ (h.ok J s Z H (λv H'=>∃d M' G',R d M'/\XM M G H M' G' H'/\MR X.prog X.w X.K M' G' H'/\Ar X.K G' d v) I ⟨G,ρ,M,R,st,hf,λd M' v G' H' r x m q=>⟨d,M',G',r,x,m,q⟩⟩) λu s' ⟨v,H',I',rv,d,M',G',r,x,m,q⟩=>k d M' v G' H' u s' r x m q I' rv
def Oe(fo fa:WE):WE:=λρ M R=>fo ρ M λd M1=>Dw hy! λ_=>fa ρ M1 λy M2=>Dw (Ek M2 d) λq=>Dw fx! λ_=>R ((pp!).getD .non) M2
def b9f(hu:aH_)(ho:ck_)(ha:Z_)(m:M1 X o "get" ag a ab):ME X own (.Call y4_ [a] [] ab) (Oe fo fa):=⟨by
 intro J s Z H Q I ⟨G,ρ,M,R,st,e,k⟩;refine OT m.base m.few m.line MJ NC PySem.F.type_dict_get kK_;obtain⟨c1,e1,r1⟩:=cG r1;obtain⟨rfl,rfl,hM⟩:=cY q1 e1;cases rx;obtain⟨t1,t2⟩:=kJ I1 m1 x1.sub hM;refine kL!;rw[m.trees];refine KS rfl y6!;obtain⟨⟨p2,yt,sw⟩,e2,r2⟩:=cG r2;obtain⟨kk,e3,r2⟩:=cG r2;obtain⟨z1,z2,cu⟩:=cY bS_ e2;cases z1;exact c4z (A:=X.A) a! I2 m2 x2.sub cu y6_ e3 λov s' I' ⟨v',r',ap⟩=>⟨v',H2,I',ap,k _ M2 v' G2 H2 r2 ci! m2 r'⟩⟩
def Ho(fo fa fb:WE):WE:=λρ M R=>fo ρ M λd M1=>Dw hy! λ_=>fa ρ M1 λy M2=>fb ρ M2 λz M3=>Dw (Ek M3 d) λq=>Dw fx! λ_=>R ((pp!).getD z) M3
def wB(hu:aH_)(ho:ck_)(ha:Z_)(O:ci_)(m:M2 X o "get" ag a b ab):ME X own (.Call y4_ af! [] ab) (Ho fo fa fb):=⟨by
 intro J s Z H Q I ⟨G,ρ,M,R,st,e,k⟩;refine OT m.base m.few m.line MJ NC PySem.F.type_dict_get kK_;obtain⟨c1,e1,r1⟩:=cG r1;obtain⟨rfl,rfl,hM⟩:=cY q1 e1;cases rx;obtain⟨t1,t2⟩:=kJ I1 m1 x1.sub hM;refine kL!;rw[m.trees];refine KS rfl (MH (LC (ha.run I1 fy! r1 λy M2 yv G2 H2 iv s2 r2 x2 m2 q2 I2 ry=>
  LC y9!)))
 obtain⟨⟨p2,yt,sw⟩,e2,r3⟩:=cG r3;obtain⟨kk,e3,r3⟩:=cG r3;obtain⟨z1,z2,cu⟩:=cY za! e2;cases z1;exact c4y (A:=X.A) a! I3 m3 x3.sub cu y9_ e3 za_ λov s' I' ⟨v',r',ap⟩=>⟨v',H3,I',ap,k _ M3 v' G3 H3 r3 pr_ m3 r'⟩⟩
def Hw(fo fa fb:WE):WE:=λρ M R=>fo ρ M λd M1=>Dw hy! λ_=>fa ρ M1 λy M2=>fb ρ M2 λz M3=>Dw (Ek M3 d) λq=>Dw fx! λ_=>q.2.1.length<big/\
 match kget q.2.1 y with
 |some v=>R v M3
 |none=>R z (Ay M3 q.1 (.dct (Aq q.2.1 y z) (q.2.2+1)))
def zK(hu:aH_)(ho:ck_)(ha:Z_)(O:ci_)(m:M2 X o "setdefault" ag a b ab):ME X own (.Call (.Attribute o "setdefault" ag) af! [] ab) (Hw fo fa fb):=⟨by
 intro J s Z H Q I ⟨G,ρ,M,R,st,e,k⟩;refine OT m.base m.few m.line MJ QQ PySem.F.type_dict_setdefault kK_;obtain⟨c1,e1,r1⟩:=cG r1;obtain⟨rfl,rfl,hM⟩:=cY q1 e1;cases rx;obtain⟨t1,t2⟩:=kJ I1 m1 x1.sub hM;refine kL!;rw[m.trees];refine KS rfl (MH (LC (ha.run I1 fy! r1 λy M2 yv G2 H2 iv s2 r2 x2 m2 q2 I2 ry=>
  LC y9!)))
 obtain⟨⟨p2,yt,sw⟩,e2,r3⟩:=cG r3;obtain⟨kk,e3,hl,r3⟩:=cG r3;obtain⟨z1,z2,cu⟩:=cY za! e2;cases z1;have lg:=(ci!).trans x3 m2;refine yM (A:=X.A) a! I3 m3 x3.sub cu y9_ e3 za_ hl (λw ov s' hw I' ⟨v',r',ap⟩=>?_) λhn au s' I' c'=>?_
 .dsimp only at r3;rw[hw]at r3;exact⟨v',H3,I',ap,k _ M3 v' G3 H3 r3 lg m3 r'⟩
 .dsimp only at r3;rw[hn]at r3;exact⟨zv,_,I',rz,k _ _ zv G3 _ r3 (lg.trans (.write m3 x3.sub cu) m3) (m3.write cu c') q3⟩⟩
def Xg(fo fa:WE):WE:=λρ M R=>fo ρ M λd M1=>Dw hy! λ_=>fa ρ M1 λy M2=>Dw (Ek M2 d) λq=>Dw fx! λ_=>Dw pp! λv=>R v (Ay M2 q.1 (.dct (Gm q.2.1 y) (q.2.2+1)))
def b9e(hu:aH_)(ho:ck_)(ha:Z_)(m:M1 X o "pop" ag a ab):ME X own (.Call zc_ [a] [] ab) (Xg fo fa):=⟨by
 intro J s Z H Q I ⟨G,ρ,M,R,st,e,k⟩;refine OT m.base m.few m.line MJ PySem.F.slot_dict_pop PySem.F.type_dict_pop kK_;obtain⟨c1,e1,r1⟩:=cG r1;obtain⟨rfl,rfl,hM⟩:=cY q1 e1;cases rx;obtain⟨t1,t2⟩:=kJ I1 m1 x1.sub hM;refine kL!;rw[m.trees];refine KS rfl y6!;obtain⟨⟨p2,yt,sw⟩,e2,r2⟩:=cG r2;obtain⟨kk,e3,r2⟩:=cG r2;obtain⟨w,e4,r2⟩:=cG r2;obtain⟨z1,z2,cu⟩:=cY bS_ e2;cases z1;exact c9d (A:=X.A) a! I2 m2 x2.sub cu y6_ e3 e4 λau ov s' I' c' ⟨v',r',ap⟩=>⟨v',_,I',ap,k _ _ v' G2 _ r2 ((ci!).trans (.write m2 x2.sub cu) m2) (m2.write cu c') r'⟩⟩
def Fg:WE:=λρ M R=>∀p,M p=none->R x! du!
def eY:ME X own (.Dict [] [] pos) Fg:=⟨by
 intro J s Z H Q I ⟨G,ρ,M,R,st,e,k⟩;have hp:H o_=none:=I.fresh;have D0:Oo zd! s.heap.objs.size [] 0:=zd_;refine wpAny_Dict_empty ⟨c8_,upd H s.heap.objs.size ze!,zg!,rfl,?_⟩
 .obtain⟨⟨o,z1,z2,z3⟩,z4⟩:=z;exact pf_
 .exact k _ _ _ G _ (e _ (st.mr.nocell hp)) (.laid st.or.sub hp) (st.mr.laid hp st.or.sub zh!) Ar.fn⟩
end
abbrev WP:=Ad->Mh->(List ay_->Mh->Prop)->Prop
def Yv(K:zT!)(G:Hp):List ay_->List pu!->Prop:=Paired λp q=>Cu K G p.1 q.1/\Cu K G p.2 q.2
structure MP(X:Cx)(own:j!)(pos:Pos)(keys:List (Option Expr))(jm:bs_)(f:WP):Prop where
 ok:∀(J:l_) (s:zS!) (Z:St) (G H:Hp) (ρ:Ad) (M:Mh) (R:zh_) (Q:List pu!->Shared->Prop),Inv X J Z H s->So X.prog X.w X.K own G H Z ρ M->f ρ M R->
  (∀kvs M' G' H' us s',R kvs M'->XM M G H M' G' H'->MR X.prog X.w X.K M' G' H'->Yv X.K G' kvs us->Inv X J Z H' s'->Q us s')->wpAny e_ X.A (evalPairs (pairTrees keys jm X.env pos)) Q X.xe s
section
variable{X:Cx}{own:List Nat}{e o a b:Expr}{es:List Expr}{pos ag ab p:Pos}{f fa fb fo:WE}{fs:WA}{fp:WP}{keys:List (Option Expr)}{jm:List Expr}
def Ng:WP:=λ_ M R=>R [] M
def Em(fa fb:WE)(fp:WP):WP:=λρ M R=>fa ρ M λx M1=>fb ρ M1 λy M2=>fp ρ M2 λkvs M3=>R ((x,y)::kvs) M3
def vW:MP X own pos [] [] Ng:=⟨λJ s Z G H ρ M R Q I st e k=>pairTrees_nil_walk (k [] M G H [] s e pa! st.mr .nil I)⟩
def gW(ha:Z_)(O:ci_)(hp:zi!):MP X own pos (some a::keys) (b::jm) (Em fa fb fp):=⟨λJ s Z G H ρ M R Q I st e k=>
 pairTrees_cons_walk (ha.run I st e λx M1 v G1 H1 u s1 r1 x1 m1 q1 I1 ru=>O.run I1 fy! r1 λy M2 v2 G2 H2 u2 s2 r2 x2 m2 q2 I2 X8=>
  hp.ok J s2 Z G2 H2 ρ M2 _ _ I2 y8_ r2 λkvs M3 G3 H3 us s3 r3 x3 m3 q3 I3=>
   k _ M3 G3 H3 _ s3 r3 pr_ m3 (.cons ⟨⟨v,(bS_).mono x3.g,ru⟩,⟨v2,q2.mono x3.g,X8⟩⟩ q3) I3)⟩
def iG:∀{l:g!} {d x:D},d∉l.map b!->Aq l d x=l++en!
 |[],_,_,_=>rfl
 |(y,z)::l,d,x,h=>by
  rw[GM,GJ,NB]at h;unfold Aq;rw[kN!,iG h.2];rfl
def wK:∀{l:g!} {d:D},d∉l.map b!->kget l d=none
 |[],_,_=>rfl
 |(y,z)::l,d,h=>by
  rw[GM,GJ,NB]at h;unfold kget;rw[kN!,wK h.2]
def yT{J:l_}{Z:St}{G:Hp}{A:xz!}{E:p!}(hu:an!):∀{kvs:g!} {us:List pu!} {acc:g!} {H:Hp} {s:zS!} {M:Mh} {n:Nat} {Q:zj!},Yv X.K G kvs us->Inv X J Z H s->MR X.prog X.w X.K M G H->Bg G H->
  M c=some (.dct acc n)->cl!+az_<=1000->(∀p∈kvs,(Dm p.1).isSome=true)->((acc++kvs).map b!).Nodup->
  (∀H' s',Inv X J Z H' s'->XM M G H zk! G H'->MR X.prog X.w X.K zk! G H'->Q PUnit.unit s')->
  wpAny e_ A (forIn us PUnit.unit λ(x:Value×Value) (_:PUnit)=>(do dictSet c x.1 x.2;pure (ForInStep.yield PUnit.unit):Sem zk_)) Q E s
 |_,_,acc,H,s,M,n,Q,.nil,I,m,sub,hM,hl,hk,nd,k=>by
  rw[NY];have hc:Ay M c (.dct (acc++[]) (n+0))=M:=by
   funext b;unfold Ay;split
   .rename_i e;rw[e,HP,hM];rfl
   .rfl
  have k:=k H s I;rw[KF,hc]at k;exact GH (k (.refl sub) m)
 |(d,x)::kvs,(u,v)::us,acc,H,s,M,n,Q,.cons r t,I,m,sub,hM,hl,hk,nd,k=>by
  rw[LQ];obtain⟨kk,hd⟩:=OE.mp (hk _ GO);have pj:d∉acc.map b!:=λz=>by
   rw[HM,HU]at nd;exact nd.2.2 d z d c_ rfl
  simp only[GS]at hl;refine GF (GF (c1a hu I m sub hM r.1 hd r.2 (HH a! (show 1001<=big by decide)) λau s' I' c'=>GH ?_));have v0:Ge acc d n=n+1:=by unfold Ge;rw[wK pj];simp
  rw[v0,iG pj]at c';rw[v0]at I';have m':=m.write hM c';have X9:Bg G (upd H c (dE c au bC_)):=(XM.write (c:=.dct (acc++en!) bC_) m sub hM).sub;refine yT hu t I' m' X9 mup_same kN_ (λp hp=>hk p jn!) (by rw[IY];exact nd) λH2 s2 I2 x2 m2=>?_;have hc:Ay (Ay M c (.dct (acc++en!) bC_)) c (.dct (acc++en!++kvs) (n+1+az_))=Ay M c (.dct (acc++bD!::kvs) (n+(bD!::kvs).length)):=by
   funext b;unfold Ay;split
   .rw[IY,GS];simp only[List.singleton_append];rw[show n+1+kvs.length=n+(kvs.length+1)by omega]
   .rfl
  rw[hc]at x2 m2;exact k H2 s2 I2 ((XM.write m sub hM).trans x2 m') m2
def Oq(fp:WP):WE:=λρ M R=>∀p,M p=none->fp ρ du! λkvs M1=>M1 p=some E_/\az_<=1000/\(∀q∈kvs,(Dm q.1).isSome=true)/\(ft!).Nodup/\R x! (Ay M1 p (.dct kvs az_))
def pJ(hu:aH_)(hp:zi!)(gn:keys.all (·.isSome)=true:=by rfl)(hl:keys.length=jm.length:=by rfl)(h0:keys≠[]:=by simp)(h15:keys.length<=15:=by decide):ME X own (.Dict keys jm pos) (Oq fp):=⟨by
 intro J s Z H Q I ⟨G,ρ,M,R,st,e,k⟩;have hn:=pairTrees_length keys jm X.env pos gn hl;have db:pairTrees keys jm X.env pos≠[]:=λz=>by rw[z]at hn;exact h0 (MM.mp hn.symm)
 rw[arm_eval_Dict,zip_pairTrees keys jm X.env pos gn hl,dictDisplay_pairs _ db a!];unfold subDict;have hf:H o_=none:=I.fresh;have D0:Oo zd! s.heap.objs.size [] 0:=zd_;have I1:Inv X J Z pw! {s with heap:=s.heap.push {cls:=.type "dict",data:=.dict #[]}}:=by
  refine zg!;obtain⟨⟨o,z1,z2,z3⟩,z4⟩:=z;exact pf_
 have x0:XM M G H zl! G pw!:=.laid st.or.sub hf;have m0:MR X.prog X.w X.K zl! G pw!:=st.mr.laid hf st.or.sub zh!;refine GF (PD (GF (GF (wpAny_alloc (GF (IJ ?_))))));rw[aX_];refine GF (hp.ok J _ Z G _ ρ _ _ _ I1 (st.grow x0 m0) (e _ (st.mr.nocell hf)) λkvs M1 G1 H1 us s1 r1 x1 m1 q1 I2=>?_);obtain⟨hM1,ak,hk,nd,r1⟩:=r1;refine IJ (GF (yT (A:=X.A) (acc:=[]) a! q1 I2 m1 x1.sub hM1 (by simpa using ak) hk nd λH2 s2 I3 x2 m2=>GH (GH (GH ⟨c8_,H2,I3,rfl,?_⟩))));have TY:=(x0.trans x1 m0).trans x2 m1;simp only[JF,OV]at TY m2;exact k _ _ _ G1 H2 r1 TY m2 Ar.fn⟩
end
abbrev WS:=Ad->Mh->(Fl->Mh->Prop)->Prop
structure Jg(P:xR!)(w:xM!)(K:zT!)(own:j!)(M0:Mh)(G0 F0:Hp)(M:Mh)(G H:Hp)(Z:St)(ρ:Ad):Prop where
 st:So P w K own G H Z ρ M
 x:XM M0 G0 F0 M G H
 fr:∀i∈own,∀p,Z[i]?=some ca_->F0 p=none
inductive CG(P:xR!)(w:xM!)(K:zT!)(M0:Mh)(G0 F0:Hp)(own h2:j!)(f:WS)(E:Uv)(Z:St)(H:Hp):Prop
 |mk (G:Hp) (ρ:Ad) (M:Mh) (R:q!) (st:bV_) (e:ho_) (a:∀ρ' M' G' hx H',R cl_ M'->Jg P w K h2 M0 G0 F0 M' G' H' hx ρ'->E.nx hx H') (b:∀d M' v G' H',R aW_ M'->XM M0 G0 F0 M' G' H'->MR P w K M' G' H'->Ar K G' d v->E.rt v H'):CG P w K M0 G0 F0 own h2 f E Z H
structure MS(X:Cx)(own h2:j!)(st:Stmt)(f:WS):Prop where
 ok:∀M0 G0 F0,PS X st zl_
structure Uf(X:Cx)(own h2:j!)(st:bG_)(f:WS):Prop where
 ok:∀M0 G0 F0,Tz X st zl_
section
variable{P:xR!}{w:xM!}{K:zT!}{own h2:List Nat}{M0 M M':Mh}{G0 F0 G H G' H':Hp}{Z hx:St}{ρ ρ':Ad}
def Jg.grow(s:bV_)(x:kt!)(m:yv!):Jg P w K own M0 G0 F0 M' G' H' Z ρ:=⟨s.st.grow x m,s.x.trans x s.st.mr,s.fr⟩
def Jg.set{i:Nat}(s:bV_)(hi:bl!)(r:cb_):Jg P w K own M0 G0 F0 M G H ew! bN_:=by
 have ne:∀j∈own,i≠j:=λj hj z=>hi (z▸hj);refine⟨⟨s.st.or.set hi r,s.st.mr,zm!⟩,s.x,zm!⟩
 .rw[HX (ne j hj)]at e;exact s.st.dj j hj p e
 .rw[HX (ne j hj)]at e;exact s.fr j hj p e
def Gc(own:j!)(Z:St)(H:Hp):Hp:=λb=>if b∈Jk own Z then none else H b
def Jg.sr(s:bV_):SR K own G kO_ G H Z ρ:=by
 refine⟨s.st.or,⟨e9_,jy_,s.st.or.sub,dm!⟩,wB!⟩
 .unfold Gc at e;show"!6"
  .cases e
  .exact e
 .unfold Gc;rw[GU (a5g hi e)]
def Jg.root(s:bV_){b:xh!}(h:b∈Jk own Z):M b=none/\F0 b=none:=by obtain⟨i,hi,q⟩:=mO h;exact⟨s.st.dj i hi b q,s.fr i hi b q⟩
def Jg.noF(s:bV_){b:xh!}(h:Gc own Z H b=none):F0 b=none:=by
 unfold Gc at h;split at h
 .rename_i O;exact(kP!).2
 .cases hM:M0 b with
  |none=>exact s.x.free hM h
  |some c=>exact absurd h (s.st.mr.has (s.x.cells b yu!))
def Jg.cellF(s:bV_){b:xh!}{c:Oc}(h:M b=some c):Gc own Z H b=H b/\H b≠none:=by refine⟨?_,s.st.mr.has (by rw[h];simp)⟩;unfold Gc;rw[GL (λO=>by rw[(kP!).1]at h;cases h)]
def Jg.mr'(s:bV_)(x:zm_):MR P w K M G' H':=⟨λa c e=>by
 obtain⟨B,Y⟩:=s.st.mr.cell a c e;obtain⟨e1,e2⟩:=s.cellF e;refine yu_
 .cases q:G' a with
  |none=>rfl
  |some o=>
   rcases x.new a b7_ with z|z
   .exact absurd B z
   .rw[e1]at z;exact absurd z e2
 .cases q:H a with
  |none=>exact absurd q e2
  |some o=>exact x.h a o (e1.trans q)⟩
def Jg.x'(s:bV_)(x:zm_):XM M0 G0 F0 M G' H':=by
 refine⟨s.x.g.trans x.g,x.sub,bk_,zn!,s.x.dom,s.x.cells⟩
 .obtain z|z:=x.new b h
  .exact s.x.new b z
  .exact pw_
 .have B:=s.x.keep b o e O;refine x.h b o ?_;unfold Gc;rw[zn_];exact B
def Jg.after(s:bV_)(r:SR K h2 G kO_ G' H' hx ρ'):Jg P w K h2 M0 G0 F0 M G' H' hx ρ':=
 ⟨⟨r.or,s.mr' r.ext,λi hi p e=>by
  cases q:M p with
  |none=>rfl
  |some c=>
   obtain⟨e1,e2⟩:=s.cellF q;have:=r.fr i hi p e;rw[e1]at this;exact absurd this e2⟩,s.x' r.ext,λi hi p e=>s.noF (r.fr i hi p e)⟩
end
section
variable{X:Cx}{own bh jj:List Nat}{st:Stmt}{rest body:List Stmt}{e a b c tg o:Expr}{es:List Expr}{pos p2:Pos}{f fa fb fc fo:WE}{fs:WA}{ft fu:WT}{q1 q2 q3:WS}{q:Ad->Option Fl}
def pA{t:TS}(h:ib_)(hw:∀M0 G0 F0 E Z G H ρ M R,Jg X.prog X.w X.K own M0 G0 F0 M G H Z ρ->q1 ρ M R->
  (∀ρ' M' G' hx H',R cl_ M'->Jg X.prog X.w X.K bh M0 G0 F0 M' G' H' hx ρ'->E.nx hx H')->(∀d M' v G' H',R aW_ M'->XM M0 G0 F0 M' G' H'->MR X.prog X.w X.K M' G' H'->Ar X.K G' d v->E.rt v H')->t E Z H):MS X own bh st q1:=
 ⟨λM0 G0 F0 J s Z H E I ⟨G,ρ,M,R,sr,e,k1,k2⟩=>h J s Z H E I (hw M0 G0 F0 E Z G H ρ M R sr e k1 k2)⟩
def Rv(q:aH!):WS:=λρ M R=>Dw (q ρ) λr=>R r M
def a9x(h:DS X own bh st q):MS X own bh st (Rv q):=⟨λM0 G0 F0 J s Z H E I ⟨G,ρ,M,R,sr,e,k1,k2⟩=>by
 obtain⟨r,e1,e2⟩:=cG e;refine h.ok G kO_ J s Z H E I ⟨G,ρ,r,sr.sr,e1,?_⟩;cases r with
 |nx ρ'=>exact λG' hx H' cf=>k1 ρ' M G' hx H' e2 (sr.after cf)
 |rt d=>exact λv G' H' x r=>k2 d M v G' H' e2 (sr.x' x) (sr.mr' x) r⟩
def Ch:WS:=λρ M R=>R am_ M
def Ah(q1 q2:WS):WS:=λρ M R=>q1 ρ M λr M1=>match r with|.nx ai=>q2 ai M1 R|.rt d=>R aW_ M1
def cB:Uf X own own [] Ch:=⟨λM0 G0 F0 J s Z H E I ⟨G,ρ,M,R,sr,e,k1,k2⟩=>b1t J s Z H E I (k1 ρ M G Z H e sr)⟩
def aE(B:zq_)(Y:Uf X bh jj rest q2):Uf X own jj lV_ (Ah q1 q2):=⟨λM0 G0 F0 J s Z H E I ⟨G,ρ,M,R,sr,e,k1,k2⟩=>
 a5o px_ zr! J s Z H E I ⟨G,ρ,M,_,sr,e,λρ' M' G' hx H' r dz=>⟨G',ρ',M',R,dz,r,k1,k2⟩,λd M' v G' H' r x m q=>k2 d M' v G' H' r x m q⟩⟩
def aG(B:zq_):Uf X own bh [st] q1:=⟨λM0 G0 F0=>b1s px_⟩
def Jg.free{P:xR!}{w:xM!}{K:zT!}{M0 M:Mh}{G0 F0 G H:Hp}{Z:St}{ρ:Ad}(s:bV_):Jg P w K [] M0 G0 F0 M fa! H Z ρ:=by
 have o:=s.st.or.full;have sG:Bg G fa!:=λb u e=>by
  unfold Km;split
  .exact s.st.or.sub b u e
  .exact e
 refine⟨⟨o,⟨λa c e=>?_⟩,al_⟩,⟨s.x.g.trans sG,o.sub,bk_,s.x.keep,s.x.dom,s.x.cells⟩,al_⟩
 .obtain⟨B,Y⟩:=s.st.mr.cell a c e;refine⟨?_,Y.mono sG rfl⟩;unfold Km;rw[GL (λO=>by rw[(kP!).1]at e;cases e)];exact B
 .unfold Km at h;split at h
  .rename_i O;exact .inr (kP!).2
  .exact s.x.new b h
def oZ(h:Uf X [] jj rest q1):Uf X own jj rest q1:=⟨λM0 G0 F0 J s Z H E I ⟨G,ρ,M,R,sr,e,k1,k2⟩=>h.ok M0 G0 F0 J s Z H E I ⟨_,ρ,M,R,sr.free,e,k1,k2⟩⟩
def Bf(f:WE):WS:=λρ M R=>f ρ M λd M1=>R aW_ M1
def bR(h:bS!):MS X own bh lW! (Bf f):=pA (b7r h.ok) λM0 G0 F0 E Z G H ρ M R sr e k1 k2=>
 ⟨G,ρ,M,_,sr.st,e,λd M' v G' H' r x m q=>k2 d M' v G' H' r (sr.x.trans x sr.st.mr) m q⟩
def Pq:WS:=λ_ M R=>R (.rt .non) M
def a1x:MS X own bh ru_ Pq:=pA c2q λM0 G0 F0 E Z G H ρ M R sr e k1 k2=>k2 _ M _ G H e sr.x sr.st.mr Ar.non
def An(i:Nat)(f:WE):WS:=λρ M R=>f ρ M λd M1=>R (.nx bN_) M1
def aW{i:Nat}(hN:br!)(hi:ah_)(L:br_)(h:bS!)(bp:bl!:=by decide)(hs:wp!:=by rfl)
  (hf:X.fn x=true\/X.env.scope.names.lookup x=some .local:=by first|exact .inl rfl|exact .inr rfl|assumption):MS X own own wp_ (An i f):=
 pA wq! λM0 G0 F0 E Z G H ρ M R sr e k1 k2=>⟨G,ρ,M,_,sr.st,e,λd M' v G' H' r x m q=>k1 _ M' G' _ H' r ((pz!).set bp q)⟩
def Ax(ft:WT)(q1 q2:WS):WS:=λρ M R=>ft ρ M λb M1=>if b then q1 ρ M1 R else q2 ρ M1 R
def cN{b1 b2:bG_}(hc:pc_)(B:Uf X own bh b1 q1)(Y:Uf X own bh b2 q2):MS X own bh wq_ (Ax ft q1 q2):=⟨λM0 G0 F0 J s Z H E I ⟨G,ρ,M,R,sr,e,k1,k2⟩=>by
 refine c5o hc.ok px_ zr! J s Z H E I ⟨G,ρ,M,_,sr.st,e,λb M' G' H' r x m=>?_⟩;cases b with
 |true=>exact lQ zt_
 |false=>exact lR zt_⟩
def Bk(f:WE):WS:=λρ M R=>f ρ M λ_ M1=>R am_ M1
def cI(h:bS!)(hs:rr_:=by rfl):MS X own own (.Expr e pos) (Bk f):=
 pA (tZ h.ok hs) λM0 G0 F0 E Z G H ρ M R sr e k1 k2=>⟨G,ρ,M,_,sr.st,e,λd M' v G' H' r x m q=>k1 ρ M' G' Z H' r pz!⟩
def Gr:WS:=λ_ _ _=>False
def jF:MS X own bh st Gr:=zu!
def Ea(C:xh!)(x:Str)(fo f:WE):WS:=λρ M R=>f ρ M λy M1=>fo ρ M1 λd M2=>match d with
 |.fn p=>(match M2 p with|some (.obj C' fs)=>C'=C/\bq!<100/\R am_ (Ay M2 p pA!)|_=>False)
 |_=>False
def fQ(c:dO_)(n:Ef X.K C x)(ho:ck_)(h:bS!)(hs:swapsWith e (some (.Attribute o x p2)) pos.line X.env=pure false:=by rfl):MS X own own (.Assign [.Attribute o x p2] e pos) (Ea C x fo f):=
 pA (c6s ho.ok h.ok hs) λM0 G0 F0 E Z G H ρ M R sr e k1 k2=>⟨G,ρ,M,_,sr.st,e,λy M1 v G1 H1 r1 x1 m1 q1=>⟨G1,ρ,M1,_,sr.st.grow x1 m1,r1,λd M2 u G2 H2 r2 x2 m2 q2=>by
  cases d<;>first|exact r2.elim|skip
  rename_i p;cases fA q2;dsimp only at r2;split at r2
  .rename_i C' fs hM;obtain⟨hC,hl,r2⟩:=r2;subst hC;obtain⟨_,dx,vs,h3,h4⟩:=m2.cell p _ hM;have ak:bq!=bx_:=LJ h4;exact⟨p,_,dx,vs,rfl,h3,c,n,r!,k1 ρ _ G2 Z _ r2 ((zv_).grow (.write m2 x2.sub hM) (m2.write hM ⟨dx,_,bP,b3e bS_ h4⟩))⟩
  .exact r2.elim⟩⟩
def Kn(M:Mh)(d y v:D):Option Mh:=match d with
 |.fn p=>match M p with
  |some (.dct kvs ep)=>if(fx!).isSome&&decide (az_<big)then some hz_ else none
  |some (.lst xs)=>match y with
   |.int j=>(Eg xs.length j).map λk=>Ay M p (.lst (xs.set k v))
   |_=>none
  |_=>none
 |_=>none
def AS(P:xR!)(w:xM!)(K:zT!):V->V->V->Hp->lX!->Prop:=λo i v H Q=>∃(M:Mh) (G:Hp) (a:xh!) (kvs:g!) (ep:Nat) (d x:D) (k:MK),o=.ref a/\Bg G H/\MR P w K M G H/\M a=some hr_/\Ar K G d i/\Dm d=some k/\Ar K G x v/\az_<big/\
 ∀au,Ha P w K G ky_ a yM!->Q ky_
def c2g(hu:aH_):Vu X (AS X.prog X.w X.K):=by intro J s Z H o i v ov iv u Q I ro ri rv h;obtain⟨M,G,a,kvs,ep,d,x,k,rfl,sub,m,e,r,hk,rx,hl,q⟩:=h;cases ro;exact b0v (A:=X.A) a! I m sub e ⟨_,r,ri⟩ hk ⟨_,rx,rv⟩ hl λau s' I' c'=>⟨_,I',q au c'⟩
def c2o{r r':Yc}(h:Vu X r)(h':Vu X r'):Vu X (λo i v H Q=>r o i v H Q\/r' o i v H Q):=by
 intro J s Z H o i v ov iv u Q I ro ri rv q;obtain q|q:=q
 .exact h J s Z H o i v ov iv u Q I ro ri rv q
 .exact h' J s Z H o i v ov iv u Q I ro ri rv q
def By(fo fi f:WE):WS:=λρ M R=>f ρ M λv M1=>fo ρ M1 λd M2=>fi ρ M2 λy M3=>Dw pB_ λM4=>R am_ M4
def dD{fi:WE}(hu:aH_)(ho:ck_)(hi:ME X own i fi)(h:bS!)
  (ha:∀v,assign zx! X.env v=(do
   let ov <-holding [v] cZ_
   let iv <-holding [v,ov] rz_
   standAt p2
   holding eC! lY_
   release eC! []):=by intro _;rfl)
  (hs:swapsWithSole kR! e pos.line X.env=pure false:=by rfl) (hw:swappedStores kR! e X.env=pure none:=by rfl)
  (B:(assignEach kR! X.env).map z_=[assign zx! X.env]:=by rfl):MS X own own (.Assign kR! e pos) (By fo fi f):=
 pA (b7t h.ok (b7x ho.ok hi.ok (c2o a4v (c2g hu)) ha) hs hw B) λM0 G0 F0 E Z G H ρ M R sr e k1 k2=>⟨G,ρ,M,_,sr.st,e,λv M1 vv G1 H1 r1 x1 m1 q1=>⟨G1,ρ,M1,_,sr.st.grow x1 m1,r1,λd M2 dv G2 H2 r2 x2 m2 q2=>
  ⟨G2,ρ,M2,_,(sr.st.grow x1 m1).grow x2 m2,r2,λy M3 yv G3 H3 r3 x3 m3 q3=>by
   obtain⟨M4,e4,r4⟩:=cG r3;have v7:=(zv_).grow x3 m3;have qd:=q2.mono x3.g;have qv:=(bS_).mono x3.g;unfold Kn at e4;split at e4
   .rename_i p;cases fA qd;split at e4
    .rename_i kvs ep hM;split at e4
     .rename_i hc;rw[HK,HQ]at hc;cases e4;obtain⟨kk,hk⟩:=OE.mp hc.1;exact .inr ⟨M3,G3,p,kvs,ep,y,v,kk,rfl,x3.sub,m3,hM,q3,hk,qv,hc.2,λau c'=>k1 ρ _ G3 Z _ r4 (v7.grow zy! (m3.write hM c'))⟩
     .cases e4
    .rename_i xs hM;split at e4
     .rename_i j;cases aX q3;obtain⟨n,e5,rfl⟩:=GR.mp e4;obtain⟨_,vs,h3,h4⟩:=m3.cell p _ hM;exact .inl ⟨p,vs,j,n,rfl,rfl,h3,by rw[<-aI h4];exact e5,k1 ρ _ G3 Z _ r4 (v7.grow zy! (m3.write hM ⟨_,bP,vG qv n h4⟩))⟩
     .cases e4
    .cases e4
   .cases e4⟩⟩⟩
def Sv(i:Nat)(f:WE):WS:=λρ M R=>match ρ[i]? with
 |some (some (.int a))=>f ρ M λd M1=>(match d with|.int b=>R (.nx (ρ.set i (some (.int (a+b))))) M1|_=>False)
 |_=>False
def b9a{i:Nat}(hN:br!)(hi:ah_)(L:br_)(h:bS!)(bp:bl!:=by decide)
  (hf:X.fn x=true\/X.env.scope.names.lookup x=some .local:=by first|exact .inl rfl|exact .inr rfl|assumption):MS X own own (.AugAssign dk! .Add e pos) (Sv i f):=
 pA (c6t hN hi L h.ok c8k hf) λM0 G0 F0 E Z G H ρ M R sr e k1 k2=>by
  unfold Sv at e;show"!6"
  .rename_i a ny;obtain⟨v,B,Y⟩:=sr.st.or.at_ i _ ny bp;cases aX Y;refine⟨_,B,G,ρ,M,_,sr.st,e,zz_⟩;cases d<;>first|exact r.elim|skip
   cases aX q;exact⟨a,_,rfl,rfl,k1 _ M' G' _ H' r ((pz!).set bp Ar.int)⟩
  .exact e.elim
def Cg(ft:WT)(q:WS):Nat->WS
 |0=>λ_ _ _=>False
 |n+1=>λρ M R=>ft ρ M λb M1=>if b then q ρ M1 (λr M2=>match r with|.nx bg=>Cg ft q n bg M2 R|.rt d=>R aW_ M2)else R am_ M1
def Fo(ft:WT)(q:WS):WS:=λρ M R=>∃n,Cg ft q n ρ M R
def iF(hp:f5!)(hc:pc_)(O:zA!):MS X own own rC! (Fo ft q1):=⟨λM0 G0 F0 J s Z H E I ⟨G,ρ,M,R,sr,⟨n,e⟩,k1,k2⟩=>by
 refine b7q hp hc.ok (O.ok M0 G0 F0) J s Z H E I ⟨λm hx H'=>∃G' ρ' M',Jg X.prog X.w X.K own M0 G0 F0 M' G' H' hx ρ'/\Cg ft q1 m ρ' M' R,⟨n,G,ρ,M,sr,e⟩,?_⟩;rintro m hx H' ⟨G',ρ',M',dz,e'⟩;cases m with
 |zero=>exact e'.elim
 |succ m=>
  refine⟨G',ρ',M',_,dz.st,e',λb M1 G1 H1 r1 x1 m1=>?_⟩;cases b with
  |true=>exact lQ ⟨λc7 H2=>∃G2 bg M2,Jg X.prog X.w X.K own M0 G0 F0 M2 G2 H2 c7 bg/\Cg ft q1 m bg M2 R,λc7 H2 h=>⟨m,LH m,h⟩,G1,ρ',M1,_,dz.grow x1 m1,r1,λbg M2 G2 c7 H2 r2 yu=>⟨G2,bg,M2,yu,r2⟩,λd M2 v G2 H2 r2 x2 m2 q2=>k2 d M2 v G2 H2 r2 x2 m2 q2⟩
  |false=>exact lR (k1 ρ' M1 G1 hx H1 r1 (dz.grow x1 m1))⟩
end
def CV(P:xR!)(w:xM!)(K:zT!)(ac:It)(ds:b_)(ck:cN!)(G1:Hp):Prop:=∀(i:Nat) (M':Mh) (G' H':Hp),Bg G1 G'->Bg G' H'->MR P w K M' G' H'->ck M'->
 wg_/\wh!
abbrev WI:=Ad->Mh->(List D->(Mh->Prop)->Mh->Prop)->Prop
inductive EV(P:xR!)(w:xM!)(K:zT!)(own:j!)(fi:WI)(Z:St)(H:Hp)(R:f5_):Prop
 |mk (G:Hp) (ρ:Ad) (M:Mh) (T:List D->(Mh->Prop)->Mh->Prop) (st:ho!) (e:fi ρ M T) (k:∀ds ck M1 ac G1 H1,T ds ck M1->XM M G H M1 G1 H1->MR P w K M1 G1 H1->CV P w K ac ds ck G1->R ac H1):EV P w K own fi Z H R
structure MI(X:Cx)(own:j!)(tg iter:Expr)(fi:WI):Prop where
 ok:PI X tg iter (EV X.prog X.w X.K own fi)
section
variable{X:Cx}{own bh jj:List Nat}{st:Stmt}{rest body:List Stmt}{e a b c tg o:Expr}{es:List Expr}{pos p2:Pos}{f fa fb fc fo:WE}{fs:WA}{fi:WI}{ft fu:WT}{q1 q2 q3:WS}{di:Ad->Option (List D)}
def c5s{wi:TI}(h:PI X tg e wi)(hw:∀Z G H R ρ M T,So X.prog X.w X.K own G H Z ρ M->fi ρ M T->(∀ds ck M1 ac G1 H1,T ds ck M1->XM M G H M1 G1 H1->MR X.prog X.w X.K M1 G1 H1->CV X.prog X.w X.K ac ds ck G1->R ac H1)->wi Z H R):MI X own tg e fi:=
 ⟨λJ s Z H R I ⟨G,ρ,M,T,st,e,k⟩=>h J s Z H R I (hw Z G H R ρ M T st e k)⟩
def Kt(di:am!):WI:=λρ M T=>Dw (di ρ) λds=>T ds I_ M
def Yf.m{K:zT!}{ac:It}{G1:Hp}(h:Yf K ac ds G1):CV P w K ac ds I_ G1:=λi M' G' H' s1 s2 _ _=>h i G' H' s1 s2
def rH(h:DI X own tg e di):MI X own tg e (Kt di):=c5s h.ok λZ G H R ρ M T st e k=>by
 obtain⟨ds,e1,e2⟩:=cG e;exact⟨G,ρ,ds,st.or,e1,λac G1 H1 x fh=>k ds _ M ac G1 H1 e2 (.ext x) o9_ fh.m⟩
def Cp(f:WE):WI:=λρ M T=>f ρ M λd M1=>match d with
 |.lst xs=>T xs I_ M1
 |.fn p=>(match M1 p with|some (.lst xs)=>T xs (λM=>M p=some J_) M1|_=>False)
 |_=>False
def eI(h:Z_):MI X own tg a (Cp fa):=c5s (b1y h.ok) λZ G H R ρ M T st e k=>⟨G,ρ,M,_,st,e,λd M1 v G1 H1 r1 x1 m1 q1=>by
 cases d<;>first|exact r1.elim|skip
 .obtain⟨p,vs,rfl,q,rr⟩:=bJ q1;exact⟨p,rfl,⟨vs,x1.sub.seq q⟩,k _ _ M1 _ G1 H1 r1 x1 m1 (a7a q rr).m⟩
 .rename_i p;cases fA q1;dsimp only at r1;split at r1
  .rename_i xs hM;obtain⟨_,vs,B,Y⟩:=m1.cell p _ hM;refine⟨p,rfl,⟨vs,kG!⟩,k _ _ M1 _ G1 H1 r1 x1 m1 λi M' G' H' s1 s2 m' ck=>?_⟩;obtain⟨_,f9,h3,h4⟩:=m'.cell p _ ck;have q':Et X.K H' p f9:=Et.of h3;refine⟨cG!,λhi=>⟨f9,q',by rw[<-aI h4,hi];exact HD _⟩⟩;obtain⟨v,g1,g2⟩:=eW h4 hd;refine⟨⟨f9,v,q',g1⟩,ea!⟩;obtain⟨e1,e2⟩:=hy;subst e1;have:=e2 f9 q';rw[g1]at this;cases this;exact⟨G',jN!,g2⟩
  .exact r1.elim⟩
def Fx(bnd:ad_)(ck:cN!)(q:WS):List D->WS
 |[]=>λρ M R=>ck M/\R am_ M
 |d::ds=>λρ M R=>ck M/\Dw jO! λai=>q ai M λr M1=>match r with|.nx bg=>Fx bnd ck q ds bg M1 R|.rt d=>R aW_ M1
def Dk(fi:WI)(bnd:ad_)(q:WS):WS:=λρ M R=>fi ρ M λds ck M1=>Fx bnd ck q ds ρ M1 R
def ER(K:zT!)(own:j!)(g:TG)(bnd:ad_):Prop:=∀{P:xR!} {w:xM!} {x:V} {d:D} {Z:St} {M0 M:Mh} {G0 F0 G H:Hp} {ρ ai:Ad} {Q:id!},Jg P w K own M0 G0 F0 M G H Z ρ->Ar K G d x->bnd d ρ=some ai->(∀dq,Jg P w K own M0 G0 F0 M G H dq ai->Q dq H)->g x Z H Q
def dA{K:zT!}(i:Nat)(hi:bl!:=by decide):ER K own eB_ (Bs i):=by intro P w x d Z M0 M G0 F0 G H ρ ai Q sr r e k;cases e;exact k _ (sr.set hi r)
def Vk(i j:Nat):D->Ad->Option Ad:=λd ρ=>match d with|.tup [x,y]=>some ((ρ.set i (some x)).set j (some y))|_=>none
def c0f{K:zT!}(i j:Nat)(hi:bl!:=by decide)(hj:j∉own:=by decide):ER K own wj! (Vk i j):=by
 intro P w x d Z M0 M G0 F0 G H ρ ai Q sr r e k;unfold Vk at e;show"!6"
 .cases e;show"!Y";show"!4";exact⟨p,[v1,v2],rfl,bS sr.st.or.sub q,rfl,v1,[v2],rfl,v2,[],rfl,rfl,k _ ((sr.set hi r1).set hj r2)⟩
 .cases e
def Jg.base{K:zT!}{M0 M1:Mh}{G0 F0 G1 H1:Hp}{Z:St}{ρ:Ad}(s:pD!):Jg P w K own M1 G1 hD! M1 G1 H1 Z ρ:=
 ⟨s.st,⟨Bg.refl _,s.st.or.sub,dm!,λb o e _=>s.sr.ext.h b o e,dm!,λb h=>h⟩,λi hi p e=>s.sr.fr i hi p e⟩
def Jg.unx{K:zT!}{M0 M1 M':Mh}{G0 F0 G1 H1 G' H':Hp}{Z:St}{ρ:Ad}(s:pD!)(y:XM M1 G1 hD! M' G' H'):XM M0 G0 F0 M' G' H':=by
 refine⟨s.x.g.trans y.g,y.sub,bk_,zn!,bk_,λb h=>y.cells b (s.x.cells b h)⟩
 .obtain z|z:=y.new b h
  .exact s.x.new b z
  .exact pw_
 .refine y.keep b o ?_ ?_
  .unfold Gc;rw[zn_];exact s.x.keep b o e O
  .cases q:M1 b with
   |none=>rfl
   |some c=>
    rcases s.x.dom b b7_ with z|z
    .exact absurd O z
    .rw[e]at z;cases z
 .obtain z|z:=y.dom b h
  .exact s.x.dom b z
  .exact pw_
def Jg.unbase{K:zT!}{M0 M1 M':Mh}{G0 F0 G1 H1 G' H':Hp}{Z hx:St}{ρ ρ':Ad}(s:pD!)(s':Jg P w K bh M1 G1 hD! M' G' H' hx ρ'):Jg P w K bh M0 G0 F0 M' G' H' hx ρ':=
 ⟨s'.st,s.unx s'.x,λi hi p e=>s.noF (s'.fr i hi p e)⟩
def eM{g:TG}{bnd:ad_}(hp:f5!)(hc:bu!)(az:pD_)(hg:l0!)(ng:ER X.K own g bnd)(O:zA!)
  (hs:c2_:=by intro _;rfl):MS X own own rZ! (Dk fi bnd q1):=⟨λM0 G0 F0 J s Z H E I ⟨G,ρ,M,R,sr,e,k1,k2⟩=>by
 have cg:Tz X body (λE Z H=>∃A hb C,CG X.prog X.w X.K A hb C own own q1 E Z H):=λJ s Z H E I ⟨A,hb,C,h⟩=>O.ok A hb C J s Z H E I h;refine b7s hp hc az.ok hg cg hs J s Z H E I ⟨G,ρ,M,_,sr.st,e,λds ck M1 ac G1 H1 r1 x1 m1 fh=>?_⟩;have yw:=sr.grow x1 m1;refine⟨λn m hx H'=>n<=f_/\m=f_ - n/\∃G' ρ' M',Jg X.prog X.w X.K own M1 G1 hD! M' G' H' hx ρ'/\Fx bnd ck q1 nJ! ρ' M' R,
  ⟨f_,IP _,rfl,G1,ρ,M1,yw.base,r1⟩,?_⟩
 rintro n m hx H' ⟨hn,rfl,G',ρ',M',dz,e3⟩;have ik:ck M':=by
  cases hd:ds.drop n with
  |nil=>rw[hd]at e3;exact e3.1
  |cons _ _=>rw[hd]at e3;exact e3.1
 obtain⟨m7,m8⟩:=fh n M' G' H' dz.x.g dz.st.or.sub dz.st.mr ik;by_cases am:n<f_
 .right;have hd:ds[n]?=some ds[n]:=by simp[am]
  rw[KU am]at e3;obtain⟨_,e3⟩:=e3;obtain⟨ai,e4,e3⟩:=cG e3;obtain⟨go,yl⟩:=m7 _ hd;refine⟨go,λc7 H2=>∃G2 bg M2,Jg X.prog X.w X.K own M1 G1 hD! M2 G2 H2 c7 bg/\Fx bnd ck q1 (ds.drop bC_) bg M2 R,λc7 H2 ⟨G2,bg,M2,B,h3⟩=>⟨f_ - bC_,r!,am,rfl,G2,bg,M2,B,h3⟩,jP!⟩;obtain⟨G2,x2,r2⟩:=yl v H2 hy;have yu:=dz.grow kI! (dz.st.mr.ext x2);exact ng yu r2 e4 λgh v7=>⟨M1,G1,Gc own Z H1,G2,ai,M',_,v7,e3,λsy M4 G4 σ4 H4 r4 X'=>⟨G4,sy,M4,X',r4⟩,λd M4 v G4 H4 r4 x4 m4 q4=>k2 d M4 v G4 H4 r4 (yw.unx x4) m4 q4⟩
 .left;have ii:n=f_:=by omega
  refine om!;rw[ii,OL]at e3;exact k1 ρ' M' G' hx H' e3.2 (yw.unbase dz)⟩
def Qv(bnd:ad_)(ck:cN!)(ft:WT)(fe:WE)(ρ:Ad):List D->Mh->yw!->Prop
 |[],M,R=>ck M/\R [] M
 |d::ds,M,R=>ck M/\Dw jO! λai=>ft ai M λb M1=>if b then fe ai M1 λy M2=>Qv bnd ck ft fe ρ ds M2 λys M3=>R (y::ys) M3 else Qv bnd ck ft fe ρ ds M1 R
def Ca(nl:Nat)(ix:j!)(fi:WI)(bnd:ad_)(ft:WT)(fe:WE):WE:=λρ M R=>fi ρ M λds ck M1=>f_<=big/\Qv bnd ck ft fe nN_ ds M1 λys M2=>R a6! M2
def b3m{K:zT!}{ac:It}{ds:b_}{ck:cN!}{M1:Mh}{G1 H1:Hp}{g:TG}{bnd:ad_}{fe:WE}{j5:Ad}{rj:St}{Fin:cU!}{R:o7!}
  (O:f_<=big)(fh:CV P w K ac ds ck G1)(hg:GD K g bnd)(er:So P w K [] G1 H1 rj j5 M1)(e:Qv bnd ck ft fe j5 ds M1 R)(k:∀ji ys M' G' H',R ji M'->XM M1 G1 H1 M' G' H'->MR P w K M' G' H'->Am K G' ji ys->ji.length<=f_->Fin ys H'):
  Vl ac g (Yh P w K [] ft) (AG P w K [] fe) Fin rj H1:=by
 refine⟨λi m ys hx H'=>i<=f_/\m=f_ - i/\∃G' M' ws,XM M1 G1 H1 M' G' H'/\So P w K [] G' H' hx j5 M'/\Am K G' ws ys/\mS_<=i/\Qv bnd ck ft fe j5 (ds.drop i) M' λr M2=>R (ws++r) M2,
  ⟨f_,IP _,rfl,G1,M1,[],.refl er.or.sub,er,Am.nil,IP _,e⟩,?_⟩
 rintro i m ys hx H' ⟨hi,rfl,G',M',ws,x,cf,ao,hw,e2⟩;refine wk!;have ik:ck M':=by
  cases hd:ds.drop i with
  |nil=>rw[hd]at e2;exact e2.1
  |cons _ _=>rw[hd]at e2;exact e2.1
 obtain⟨m7,m8⟩:=fh i M' G' H' x.g cf.or.sub cf.mr ik;by_cases am:i<f_
 .right;have hd:ds[i]?=some ds[i]:=by simp[am]
  rw[KU am]at e2;obtain⟨_,e2⟩:=e2;obtain⟨ai,e1,e2⟩:=cG e2;obtain⟨go,yl⟩:=m7 _ hd;refine⟨go,jP!⟩;obtain⟨G2,x2,r2⟩:=yl v H2 hy;have cb:=cf.grow kI! (cf.mr.ext x2);have YA:XM M1 G1 H1 M' G2 H2:=x.trans kI! cf.mr;refine hg cb.or r2 e1 λdq mz rm=>⟨G2,ai,M',_,zF_,e2,λb M3 G3 H3 r3 x3 m3=>?_⟩;have j6:=(show So P w K [] G2 H2 dq ai M' from zF_).grow x3 m3;have lg:=YA.trans x3 cb.mr;cases b with
  |true=>
   refine lQ ⟨G3,ai,M3,_,j6,r3,λy M4 u G4 H4 r4 x4 m4 q4=>⟨f_ - a1!,r!,am,rfl,G4,M4,ws++[y],lg.trans x4 m3,⟨(j6.grow x4 m4).or.le rm,m4,al_⟩,?_,?_,?_⟩⟩
   .exact cS wl! (Am.cons q4 Am.nil)
   .rw[GW,IM];omega
   .have e5:(λr M2=>R (ws++[y]++r) M2)=λr M2=>R (ws++y::r) M2:=by
     funext r M2;rw[IY];rfl
    rw[e5];exact r4
  |false=>
   exact lR ⟨f_ - a1!,r!,am,rfl,G3,M3,ws,lg,⟨j6.or.le rm,m3,al_⟩,(oe_).mono x3.g,r!,r3⟩
 .left;have ii:i=f_:=by omega
  refine om!;rw[ii,OL]at e2;have this:R (ws++[]) M':=e2.2;rw[HP]at this;exact k ws ys M' G' H' this x cf.mr ao a!
def jV{scope:Scope}{NL:j_}{ix:j!}{g:TG}{bnd:ad_}{fe:WE}
  (ce:dd!)(b8:dd_)(j4:∀y∈b8!,y.2=.local->scope.names.lookup y.1=some .local)
  (g9:gH_)(cap:dc_)(m9:jz_)(calm:bu!)(az:pD_)
  (hg:gI!)(ng:of_)(hi:zH_)(he:zI!)
  (hs:c2_:=by intro _;rfl):
  ME X own gG! zI_:=
 eC wm_ λZ G H Q ρ M R st e k=>⟨G,ρ,M,_,st,e,λds ck M1 ac G1 H1 r1 x1 m1 fh=>by
  obtain⟨O,r1⟩:=r1;have ig:=st.grow x1 m1;refine b3m O fh ng zJ! r1 λji ys M' G' H' r x m q _ p hp=>?_;exact k _ M' _ _ _ r ((x1.trans x m1).trans (.ext gY_) m) (m.ext gY_) (dQ og_ q)⟩
def a6j:Pi X [] (Yh X.prog X.w X.K [] λρ M R=>R true M):=λJ s Z H Q I ⟨G,ρ,M,R,st,e,k⟩=>a5q J s Z H Q I (k true M G H e pa! st.mr)
def sL(h:MT X [] c ft):Pi X [c] zH!:=a5p h.ok
abbrev WF:=List D->Mh->yv_->Prop
def Xc(P:xR!)(w:xM!)(K:zT!)(n:Nat)(g:WF):Sp:=λvs H Q _=>bx_=n/\∃G ds M R,Bg G H/\MR P w K M G H/\Am K G ds vs/\g ds M R/\∀d M' v G' H',R d M'->XM M G H M' G' H'->MR P w K M' G' H'->Ar K G' d v->Q v H'
def Mu(P:xR!)(w:xM!)(K:zT!)(mg:B_)(base:Heap)(k:Nat)(x:Str)(ps:j_)(g:WF):Prop:=
 ∃σ fd,Fk P w K mg base Pk k σ fd ps pF_/\Ez K fd ps []/\mg x=some bO!/\W.keepIn K bO!=true
nonrec def gl(g:W_):WF:=λds M R=>Dw (g ds) λd=>R d M
def Ao(n:Nat)(g:WF)(fs:WA):WE:=λρ M R=>fs ρ M λds M1=>f_=n/\g ds M1 R
def aU{k:Nat}{ps:j_}{g:WF}{x:Str}(F:Mu X.prog X.w X.K X.mg X.base k x ps g)(hr:b5!)(hg:R!)(ha:hx!)
  (be:F!:=by decide)(he:ak_:=by rfl)(av:aT!:=by rfl):
  ME X own bg! (Ao ps.length g fs):=by
 obtain⟨σ,fd,B,Y,h3,h4⟩:=F;refine eC (b2d B hr hg h3 h4 Y .nil vN ha.ok be he av) λZ G H Q ρ M R st e' k=>⟨G,ρ,M,_,st,e',λds M1 vs G1 H1 r1 x1 m1 q1=>?_⟩;show Xc X.prog X.w X.K ps.length g (vs++[]) H1 Q E0;rw[HP];exact⟨by rw[<-aI q1];exact r1.1,G1,ds,M1,R,x1.sub,m1,q1,r1.2,yE!⟩
def Dy(P:xR!)(w:xM!)(K:zT!)(mg:B_)(base:Heap)(k:Nat)(C:xh!)(m:Str)(ps:j_)(g:WF):Prop:=
 Ud K C/\∃σ fd,Vw K C m σ/\Fk P w K mg base Pk k σ fd ps pF_/\Ez K fd ps []
def De(C:xh!)(m:Str)(M:Mh)(d:D):Prop:=match d with
 |.fn p=>(match M p with|some (.obj C' fs)=>C'=C/\fs.lookup m=none|_=>False)
 |_=>False
def a7b{K:zT!}{M:Mh}{G H:Hp}(mr:bR_)(r:cb_)(h:kU_):∃p dx vs,d=.fn p/\v=.ref p/\H p=some yr_/\vs.lookup m=none:=by
 unfold De at h;split at h
 .show"#B";split at h
  .rename_i C' fs hM;obtain⟨rfl,hl⟩:=h;obtain⟨_,dx,vs,B,Y⟩:=mr.cell p _ hM;exact⟨p,dx,vs,rfl,rfl,B,a7i Y hl⟩
  .exact h.elim
 .exact h.elim
def Bb(C:xh!)(m:Str)(n:Nat)(g:WF)(fo:WE)(fs:WA):WE:=λρ M R=>fo ρ M λd M1=>De C m M1 d/\fs ρ M1 λds M2=>f_+1=n/\g d1! M2 R
def bW{k:Nat}{ps:j_}{g:WF}{ag:Pos}{pl:dN_}(F:zK_)(hr:b5!)(ho:ck_)(ha:hx!)
  (bz:ak_:=by rfl)(av:aT!:=by rfl)
  (ht:eval iP! X.env=(do
   let ov <-eval o X.env
   standAt gm_
   let(f,first) <-holding [ov] gn!
   callWith pos f first th! eP_):=by rfl):ME X own iP! (Bb C m ps.length g fo fs):=by
 obtain⟨cl,σ,fd,B,Y,h3⟩:=F;refine eC (c2w (pl:=pl) ho.ok cl B Y hr h3 .nil vN ha.ok bz av ht) λZ G H Q ρ M R st e' k=>zM!;show"!m";refine⟨p,dx,vs,rfl,hH,hl,G1,ρ,M1,_,kv_,r1,λds M2 us G2 H2 r2 x2 m2 q2=>?_⟩;show Xc X.prog X.w X.K ps.length g (.ref p::(us++[])) H2 Q E0;rw[HP];exact⟨by rw[GS,<-aI q2];exact r2.1,G2,.fn p::ds,M2,R,x2.sub,m2,Am.cons Ar.fn q2,r2.2,λd M3 v G3 H3 r3 x3 m3 q3=>k d M3 v G3 H3 r3 pr_ m3 q3⟩
def a6k{k:Nat}{ps:j_}{g:WF}{ag:Pos}{pl:dN_}(F:zK_)(hr:b5!)(ho:ck_)
  (ht:eval iQ_ X.env=(do
   let ov <-eval o X.env
   standAt gm_
   let(f,first) <-holding [ov] gn!
   callWith pos f first mN_ eP_):=by rfl):ME X own iQ_ (Bb C m ps.length g fo Af):=by
 obtain⟨cl,σ,fd,B,Y,h3⟩:=F;refine eC (b8d (pl:=pl) ho.ok cl B Y hr h3 .nil vN ht) λZ G H Q ρ M R st e' k=>zM!;show"!m";refine⟨p,dx,vs,rfl,hH,hl,?_⟩;show Xc X.prog X.w X.K ps.length g gx_ H1 Q E0;have r2:[].length+1=S!/\g (D.fn p::[]) M1 R:=r1;exact⟨r2.1,G1,[.fn p],M1,R,x1.sub,m1,Am.cons Ar.fn Am.nil,r2.2,λd M3 v G3 H3 r3 x3 m3 q3=>k d M3 v G3 H3 r3 (x1.trans x3 m1) m3 q3⟩
def Vv(P:xR!)(w:xM!)(K:zT!)(mg:B_)(base:Heap)(k:Nat)(x:Str)(C:xh!)(ps:j_)(g:WF):Prop:=
 mg x=some au!/\∃σ fd,Mk K C σ/\Fk P w K mg base Pk k σ fd ps pF_/\Ez K fd ps []
def Hs(C:xh!)(n:Nat)(g:WF)(fs:WA):WE:=λρ M R=>fs ρ M λds M1=>f_+1=n/\∀p,M1 p=none->g (.fn p::ds) (Ay M1 p kV!) λd M2=>d=.non/\R x! M2
def b9h{K:zT!}{M1:Mh}{G1 H1:Hp}(sub:Bg G1 H1)(m1:yt_)(L:H1 x=none)(jn:H1 dx=none)(ne:dx≠x):
  XM M1 G1 H1 (Ay M1 x kV!) G1 mM!/\MR P w K (Ay M1 x kV!) G1 mM!:=by
 have ah:∀b o,H1 b=some o->upd tb_ x mL_ b=some o:=λb o e=>by rw[aV (cD e L),aV (cD e jn)];exact e
 refine⟨⟨Bg.refl G1,λb o e=>ah b o (sub b o e),dm!,λb o e _=>ah b o e,bk_,bk_⟩,⟨λb q e=>?_⟩⟩
 .by_cases O:b=x
  .subst O;exact .inr L
  .rw[bo_]at h;exact .inl h
 .by_cases O:b=x
  .subst O;rw[mup_same];simp
  .rw[bo_];exact h
 .by_cases O:b=x
  .show"#*";exact⟨sub.free L,dx,[],bP,.nil⟩
  .rw[bo_]at e;obtain⟨B,Y⟩:=m1.cell b q e;refine⟨B,Y.mono (Bg.refl G1) ?_⟩;cases hq:H1 b with
   |none=>exact absurd hq Y.has
   |some o=>exact ah b o hq
def c3n{k:Nat}{x:Str}{ps:j_}{g:WF}(F:zO!)(hr:gq_)(hg:R!)(ha:hx!)
  (be:F!:=by decide)(he:ak_:=by rfl)(av:aT!:=by rfl):ME X own bg! (Hs C ps.length g fs):=by
 obtain⟨hm,σ,fd,B,Y,h3⟩:=F;refine eC (c2x B Y hr hg hm h3 .nil vN ha.ok be he av) λZ G H Q ρ M R st e' k=>⟨G,ρ,M,_,st,e',λds M1 vs G1 H1 r1 x1 m1 q1=>λy dx hy jn ne=>?_⟩;obtain⟨z1,z2⟩:=b9h (C:=C) x1.sub m1 hy jn ne;rw[HP];exact⟨by rw[GS,<-aI q1];exact r1.1,G1,.fn y::ds,_,_,z1.sub,z2,Am.cons Ar.fn q1,r1.2 y (m1.nocell hy),λd M2 v G2 H2 r2 x2 m2 q2=>by
  obtain⟨rfl,r2⟩:=r2;exact⟨dW q2,k _ M2 _ G2 H2 r2 ((x1.trans z1 m1).trans x2 z2) m2 Ar.fn⟩⟩
def lH{k:Nat}{x:Str}{ps:j_}{g:WF}(F:zO!)(hr:gq_)(hg:R!)
  (be:F!:=by decide):ME X own to! (Hs C ps.length g Af):=by
 obtain⟨hm,σ,fd,B,Y,h3⟩:=F;refine eC (b8e B Y hr hg hm h3 .nil vN be) λZ G H Q ρ M R st e' k=>λy dx hy jn ne=>?_;obtain⟨z1,z2⟩:=b9h (C:=C) st.or.sub st.mr hy jn ne;have r1:[].length+1=S!/\∀p,M p=none->g (D.fn p::[]) (Ay M p kV!) λd M2=>d=.non/\R x! M2:=e';exact⟨r1.1,G,[.fn y],_,_,z1.sub,z2,Am.cons Ar.fn Am.nil,r1.2 y (st.mr.nocell hy),λd M2 v G2 H2 r2 x2 m2 q2=>by
  obtain⟨rfl,r2⟩:=r2;exact⟨dW q2,k _ M2 _ G2 H2 r2 (z1.trans x2 z2) m2 Ar.fn⟩⟩
def Cn(N:j_)(n:Nat)(q:WS):WF:=λds M R=>f_=n/\q g3_ M λr M'=>match r with|.rt d=>R d M'|.nx _=>R .non M'
end
def uJ{K:zT!}{mg:B_}{st:Stmt}{ps:j_}{k:Nat}{h2:j!}{q:WS}
  (F:wE!)(S:dV_)
  (O:∀(ae:xL!) (A:xz!) (outer:aq_) (s:zS!) (H:Hp) (E:XK),Ak k om_->Uf (on!).nox [] h2 bL_ q):
  Fk P w K mg base Pk P_ σ fd ps (Xc P w K ps.length kW!):=by
 refine wE_;obtain⟨hl,G,ds,M,R,sub,m,r,e,kk⟩:=h;refine⟨_,(wF!).ok M G H,?_⟩;have er:=a4t (N:=N) sub r;exact⟨G,_,M,_,⟨⟨er,m,al_⟩,.refl sub,al_⟩,e.2,λρ' M' G' hx H' r sr=>kk _ M' _ G' H' r sr.x sr.st.mr Ar.non,λd M' v G' H' r x m q=>kk d M' v G' H' r x m q⟩
section
variable{P:xR!}{w:xM!}{A:xz!}{E:Value->Shared->Prop}{s:zS!}{d it:xh!}{es:List DictEntry}{ep i:Nat}
def Oo.at{h h':Heap}(D:Oo h d es ep)(e:∀o,h.get? d=some o->h'.get? d=some o):Oo h' d es ep:=let⟨o,ho,r⟩:=D;⟨o,e o ho,r⟩
def b9x{Q:p!}(hd:zP!)(D:pH_)
  (h:Q c1_ {s with heap:=s.heap.push {cls:=.type "dict_keyiterator",data:=.fields #[.ref d,.int 0 0,.int es.length 0,.int ep 0]}}):wpAny L! A (pyIter (.ref d)) Q E s:=by
 have hT:=D.typeIs;obtain⟨o,ho,hc,TZ⟩:=id D;refine wpAny_pyIter_slot hT PySem.F.slot_dict_iter (IE PySem.F.slot_dict_iter hT PySem.F.entry_dict_iter ?_ (PySem.F.args_dict_iter_1 _));unfold Builtin.«dict.__iter__» Builtin.Dict.dictSlotNone;refine GF pj!;show wpAny L! A.in1 (Builtin.Dict.showsAll d>>=_) _ _ s;unfold Builtin.Dict.showsAll;rw[GL (by rw[hd];exact HF)];refine GF (GH (GF (KL ho TZ (GF (KM ho TZ (GF (JN (GH ⟨_,rfl,"dict_keyiterator",_,oA!,JM.lookup,?_⟩))))))));simpa[rawInt]using h
def a6c{Q:fj_}{e:DictEntry}(az:zR!)(D:pH_)(L:es[i]?=some e)
  (h:∀h',h'.IsKeyIter it d a1! es.length ep->Heap.SameBut it s.heap h'->Q (some e.key) {s with heap:=h'}):wpAny L! A ii! Q E s:=by
 show"!Z";obtain⟨am,l8⟩:=HC.mp L;show"#."
 first|refine GF (LK hT kW_)|refine GF (MX hT kW_)
 show"!X";refine GF zU!;rw[av_];refine GH ?_;simp only[zU_,IB,LB,KP,L];refine GF ?_
 first|refine GF (LK hT zV!)|refine GF (MX hT zV!)
 show wpAny L! A.in1 (setField bZ_ 1 zV_>>=_) _ _ s;have l9:(s.heap.update it zW!).IsKeyIter it d a1! es.length ep:=
  ⟨_,MC _ ho (Obj.isFreed_of_fields (OJ hd _)),(xa!).trans hc,by rw[OJ hd];simp[rawInt]⟩
 refine GF (QL ho hd c_ (GF (IJ (GF (PZ (s:={s with heap:=s.heap.update it zW!}) l9.typeIs ?_)))));exact GH (GH ⟨_,rfl,GH (h _ l9 ed!)⟩)
def b3g{Q:fj_}(hh:eS!)(az:zR!)(D:pH_)(L:ae!<=i)
  (h:∀h',Heap.ExtBut it s.heap h'->Q none {s with heap:=h'}):wpAny L! A ii! Q E s:=by
 show"!Z";show"#."
 first|refine GF (LK hT kW_)|refine GF (MX hT kW_)
 show"!X";refine GF zU!;rw[av_];refine GH ?_;simp only[zU_,IB,LB,KP,IS L];refine GF ?_
 first|refine GF (LK hT ab_)|refine GF (MX hT ab_)
 show wpAny L! A.in1 (setField bZ_ 0 .none>>=_) _ _ s;refine GF (QL ho hd c_ ?_);refine GF ?_;simp only[newExc,newTuple];refine GF (JN (GF (m:=xa_) (wpAny_of_eq (a:=dz!) xb! (JN ?_ j6!))) j6!);simp only[raiseNew];refine GF xb_;rw[xc!];refine GF xc_;refine GF (wpAny_isInstance (T:=xq!) (b:=true) (show Shared.TypeIs _ _ _ from oA!) isSubtype_stop ?_);exact GH (h _ xd!)
def b3u(hh:eS!)(I d:xh!)(b9:d≠I)(es:Z!)(ep:Nat):Walks P w A I [I,d] [I] es.length pJ! (λi h=>h.IsKeyIter I d i es.length ep/\Oo h d es ep) where
 sub:=λb O=>by simp at O;simp[O]
 frame:=λ_ _ _ st hk=>⟨st.1.at λo e=>hk I c_ o e,st.2.at λo e=>hk d c_ o e⟩
 item:=λi s Q E hi st hQ=>by
  refine a6c st.1 st.2 (HE hi) λh' l9 bu=>?_;exact hQ _ h' s.toks ⟨_,HE hi,rfl⟩ ⟨l9,st.2.at λo e=>(bu.2 d b9).trans e⟩ λb o O e=>(bu.2 b f6_).trans e
 done:=λs Q E st hQ=>b3g hh st.1 st.2 y_ λh' cj=>hQ h' s.toks λb o O e=>cj b o f6_ e
 self:=λ_ _ _ _ st hQ=>wpAny_pyIter_keyiter st.1 hQ
def c9e{es au:Z!}{bd:Nat}(D:Oo h d es ep)(D':Oo h d au bd):es=au/\ep=bd:=by
 obtain⟨o,B,_,Y⟩:=D;obtain⟨o',h3,_,h4⟩:=D';rw[B]at h3;cases h3;rw[Y]at h4;injection h4 with h5 h6
 exact⟨by simpa using congrArg Array.toList h5,h6⟩
def FK(d:xh!)(ep n:Nat):It:=⟨λi H=>∃es e x,H d=some eo_/\ae!=n/\es[i]?=some e/\Bp x e.key,λi H x H'=>H'=H/\∀es,H d=some eo_->∃e,es[i]?=some e/\Bp x e.key,λi H=>∃es,H d=some eo_/\ae!=n/\n<=i⟩
def a3x{P:xR!}{w:xM!}{H:Hp}{es:Z!}(hok:bq_)(e:H d=some eo_):Oo h d es ep:=by obtain⟨⟨h3,_⟩,_⟩:=(show Fj P w H h d eo_ from hok d _ e);exact h3
def b6j{P:xR!}{w:xM!}{K:zT!}{tg:Expr}{n:Nat}(d it:xh!):Qx P w K tg (FK d ep n) [it] it (λi h=>h.IsKeyIter it d i n ep) where
 mem:=by simp
 obj:=λi h st b O=>by
  have e:b=it:=by simpa using O
  subst e;show"!T"
 keep:=λi h h' st k=>st.at λo e=>k it c_ o e
 item:=by
  intro X hP hw hK hc i J s Z H E I hf st hg;subst hP hw hK;obtain⟨es,e,x,hH,hl,L,rx⟩:=hg;have D:=a3x I.hok hH;obtain⟨f0,f1,f2,f3,f4,f5⟩:=hf it c_;subst hl;refine a6c st D L λh' h1 sb=>?_;have I1:Inv X J Z H {s with heap:=h'}:=I.turned (t':=s.toks) l4! f0 f1 f3 f4 f5;obtain⟨o,eo,c,dd⟩:=id h1;exact⟨_,rfl,b3b (s:=ik!) eo c dd c! ⟨x,H,I1,rx,⟨rfl,λau hy=>by
   obtain⟨rfl,_⟩:=c9e D (a3x I.hok hy);exact⟨e,L,rx⟩⟩,h1,λb O=>(im_).1⟩⟩
 done:=by
  show"!/";obtain⟨es,hH,hl,L⟩:=hg;show"!2";subst hl;exact b3g bu_ st (a3x I.hok hH) L λh' eb=>in!
 self:=λ_ _ _ _ _ st h=>wpAny_pyIter_keyiter st h
end
section
variable{X:Cx}{own:List Nat}{a tg:Expr}{fa:WE}
def Ss(f:WE):WI:=λρ M T=>f ρ M λd M1=>Dw hy! λq=>T kX! (λM=>M q.1=some po!) M1
def c7x(h:Z_):MI X own tg a (Ss fa):=⟨by
 show"!h";refine h.run I st e λd M1 v G1 H1 u s1 r1 x1 m1 q1 I1 rx=>?_;obtain⟨⟨p,kvs,ep⟩,e1,r2⟩:=cG r1;obtain⟨rfl,rfl,hM⟩:=cY q1 e1;cases rx;obtain⟨es,B,Y,h3,h4,h5,h6⟩:=eF I1 m1 x1.sub hM;have ak:az_=ae!:=LJ Y.1;refine b9x h4 h3 ⟨y!,[y!],_,FK p ep ae!,H1,rfl,io!,b6j p _,dK!,be!,k _ _ M1 _ G1 H1 r2 x1 m1 λi M' G' H' s2 s3 m' ck=>?_⟩
 .have e:b=y!:=by simpa using O
  show"!P"
 .obtain⟨_,au,g1,g2⟩:=m'.cell p _ ck;have hlen':az_=au.length:=LJ g2.1;refine⟨cG!,λhi=>⟨au,g1,r!,by rw[hi,GX];show ae!<=az_;omega⟩⟩;rw[HY]at hd;obtain⟨q,hq,rfl⟩:=GR.mp hd;obtain⟨e',cj,⟨v,r1,rv⟩,_,_⟩:=fW g2.1 hq;refine⟨⟨au,e',v,g1,r!,cj,rv⟩,ea!⟩;obtain⟨z1,z2⟩:=hy;subst z1;obtain⟨e2,pv,rx⟩:=z2 au g1;rw[cj]at pv;cases pv;rw[rx.inj rv];exact⟨G',Ce.refl s3,r1⟩⟩
end
section
variable{X:Cx}{J:List (Addr×Obj)}{Z:St}{H:Hp}{s:zS!}
def gS{Y:Heap}{t':Nat}{wr:aq!}(I:d!)(hf:∀b∈wr,Iw X J H b)(kp:∀c o,c∉wr->s.heap.get? c=some o->Y.get? c=some o):Inv X J Z H {s with heap:=Y,toks:=t'}:=by
 refine I.step (g':=s.gens) (d':=s.drawn) (t':=t') (ch:=wr) fk_ oE_ oF! hY! oF_ hY_ hZ! oG! hZ_ hc_ I.bare
 .obtain⟨f0,f1,f2,f3,f4,f5⟩:=hf c hc;exact⟨f3,f1,f4,f5⟩
 .obtain⟨o,es,ep,ho,r⟩:=hm;exact⟨o,es,ep,kp _ o (λz=>(hf _ z).2.1 rfl) ho,r⟩
 .refine(oH!).stay oH_ oI! λ_ _ e'=>e';have hn:=(hf d hm).1;obtain rfl|hd:=hd
  .rw[hn]at e;cases e
  .rw[hn]at hd;cases hd
def b6k{s0:zS!}{xs:k!}{us:h_}(I:Inv X J Z H s0)(I1:d!)(hT:zY!<=T)(eT:s.heap.IsTuple T cC_)(rv:fL_)(hz:i_<=sizeLine):Inv X J Z (upd H T bF!) s:=by
 have sn:H T=none:=I.hok.fresh hT;have ne:∀c o,H c=some o->c≠T:=λc o e=>cD e sn;refine Inv.step (g':=s.gens) (d':=s.drawn) (t':=s.toks) (h':=s.heap) (ch:=[T]) I1 fk_ xA_ xB! xB_ xC!
  (xD!) xD_ xE! ns! hc_ I1.bare
 .have e:c=T:=by simpa using hc
  subst e;obtain⟨_,g1,_,g3,g4,g5⟩:=I.fpOk hT sn;exact⟨g3,g1,g4,g5⟩
 .rw[ns_];exact n
 .by_cases O:c=T
  .show"!w";exact⟨hz,us,rv,eT⟩
  .rw[aV O]at e;exact(xF_).stay nt! xG! λd xs q=>by rw[oJ_];exact q
end
def FJ(x:Str):It:=⟨wW_,λi H v H'=>∃T c,v=.ref T/\H T=none/\x.cps[i]?=some c/\H'=upd H T (.tup [bc_,gw_]),wX!⟩
def a8n{K:zT!}{fm:bs_}{n1:Nat}{tp:Pos}{x:Str}{St':dI_}(kg:e≠it)(hd:wY_)
  (D:∀A':Around,ow_=none->Draws P w A' it [it] x.cps.size zY_ St'):
  Qx P w K do_ (FJ x) [e,it] e (λi h=>i<=fj!/\zZ!/\St' i h) where
 mem:=by simp
 obj:=λi h st b O=>by
  simp only[GJ,HS,JO]at O;obtain⟨_,⟨ah,s1⟩,s2⟩:=st;obtain rfl|rfl:=O
  .exact zZ_
  .exact hd i h s2
 keep:=λi h h' st k=>by
  have W:=WalksT.enumerateD (A:=callerA) (D callerA.in1 rfl) e kg pK_ c_;exact⟨st.1,W.frame i h h' st.2 λb O o q=>k b f6_ o q⟩
 item:=by
  intro X hP hw hK hc i J s Z H E I hf st hg;subst hP hw hK;have hh:=I.ok.hd hc;have W:=WalksT.enumerateD (A:=X.A) z0! e kg pK_ c_;refine W.item i s _ _ hg st.2 λT xu h' tk hP hT YB hm kp=>⟨_,rfl,W.go fm n1 tp i T _ _ _ hm λY bj UA=>?_⟩;obtain⟨t,y,⟨c,u,jz,rfl⟩,rfl⟩:=hP;have YC:∀b∈[e,it],Iw X J H b:=hf;have I1:Inv X J Z H {s with heap:=Y,toks:=tk}:=gS I YC λc o hc eo=>UA c o hc (kp c o hc eo);have UB:T∉[e,it]:=W.apart i T _ hm;have eT:Y.IsTuple T #[.int i t,.str al! u]:=by
   obtain⟨o,eo,r⟩:=YB;exact⟨o,UA T o UB eo,r⟩
  have I2:=b6k (us:=[.int i t,.str al! u]) (xs:=[bc_,gw_]) I I1 hT eT (.cons no_ (.cons ox! .nil)) z1_;refine⟨.ref T,_,I2,rfl,⟨T,c,rfl,I.hok.fresh hT,jz,rfl⟩,⟨hg,bj⟩,be!⟩;rw[aV (λz:b=T=>UB (by rw[<-z];exact O))];exact(im_).1
 done:=by
  show"!/";have hh:=I.ok.hd hc;have W:=WalksT.enumerateD (A:=X.A) z0! e kg pK_ c_;show"#C";exact W.done s _ _ st.2 λh' tk kp=>⟨rfl,gS I hf kp⟩
 self:=λA i s Q E st h=>by
  obtain⟨_,⟨ah,s1⟩,_⟩:=st;exact OQ s1 h
section
variable{X:Cx}{own:List Nat}{a:Expr}{fm:List Expr}{n1:Nat}{tp p pos:Pos}{fa:Ad->Option D}
def Sj(f:d_):Ad->Option aF_:=λρ=>(ag!).bind λd=>match d with|.str x=>some (x.cps.toList.zipIdx.map λq=>.tup z2!)|_=>none
def c0v(hg:z2_)(hm:z3!)(h:Q_)(hs:pL!:=by rfl)(av:pL_:=by rfl):
  DI X own do_ z3_ (Sj fa):=⟨by
 intro J s Z H R I ⟨G,ρ,ds,er,e,k⟩;obtain⟨d,e1,e2⟩:=GG.mp e;cases d<;>first|(cases e2;done)|skip
 rename_i x;cases e2;refine Call_ (iV I hg hm boot_enumerate (JB (cZ (dC h.ok fB hs pos J s Z H (λvs H1=>∃v G1,vs=[v]/\Ce G H G1 H1/\Ar X.K G1 dE! v) I ⟨G,ρ,_,er,e1,λv G1 H1 x1 r1=>⟨v,G1,rfl,x1,r1⟩⟩) λus s1 ⟨vs,H1,I1,r1,v,G1,q1,x1,rr⟩=>?_) hs av));subst q1;cases bT rr;obtain⟨u,rfl,t,rfl⟩:=kS r1;refine call_enumerate_str λh' he az hsz hk=>?_;refine OQ he ?_;have I2:Inv X J Z H1 {s1 with heap:=h',toks:=s1.toks}:=I1.kept (t':=s1.toks) hk;have jl:∀b∈[y!+1,y!],y!<=b:=λb O=>by
  simp only[GJ,HS,JO]at O;obtain rfl|rfl:=O<;>omega
 have fin:∀{St':dI_},St' 0 h'->(∀i h,St' i h->∃o,h.get? y!=some o/\∀v,o.data≠.cell v)->(∀A':Around,ow_=none->Draws X.prog X.w A' s1.heap.objs.size [y!] x.cps.size zY_ St')->
   CP X J Z do_ R (.ref (y!+1)) {s1 with heap:=h'}:=λ{St'} h0 hd D=>by
  refine⟨_,_,_,FJ x,H1,rfl,I2,a8n z5! hd D,⟨IP _,⟨_,he⟩,h0⟩,z6!,k _ G1 H1 x1 ?_⟩;intro i G' H' g1 g2;refine⟨cG!,λhi=>by rw[GX,ML,IR]at hi;exact NS hi.symm⟩;rw[HY,PJ]at hd;obtain⟨q,hq,rfl⟩:=GR.mp hd;obtain⟨c,hc,rfl⟩:=GR.mp hq;rw[KR]at hc;refine wY!;obtain⟨T,c',rfl,hT,a7,rfl⟩:=hy;rw[hc]at a7;cases a7;refine⟨_,Ce.laid g2 hT,eK (g2.free hT) (Am.cons ?_ (Am.cons Ar.str Am.nil))⟩;rw[OV];exact Ar.int
 cases ha:x.cps.all (·<128)
 .have l9:h'.IsStrIter s1.heap.objs.size "str_iterator" x t 0:=by simpa[strIterType,ha]using az
  exact fin (St':=λi h=>h.IsStrIter s1.heap.objs.size "str_iterator" x t i) l9 z6_ λA' hh=>Draws.strWide hh _ x t
 .have l9:h'.IsStrIter s1.heap.objs.size "str_ascii_iterator" x t 0:=by simpa[strIterType,ha]using az
  exact fin (St':=λi h=>h.IsStrIter s1.heap.objs.size "str_ascii_iterator" x t i) l9 z6_ λA' hh=>Draws.strAscii hh _ x t⟩
def Rz(a:Int)(n:Nat):List D:=(od!).map λi=>.int (a+(i:Nat))
def Si(f g:d_):Ad->Option aF_:=λρ=>(ag!).bind λx=>(g ρ).bind λy=>match x,y with|.int i,.int j=>if -1000<=i/\i<=100000/\-1000<=j/\j<=100000 then some (Rz i (j - i).toNat)else none|_,_=>none
end
end DL
namespace HT
open PySem PySem.Spec PyProof.Rows
def b7e(A:xz!)(s:zS!)(a:Int)(t:Tok)(c:Int)(u:Tok)(prog:xR!)(w:xM!)(E:p!)(Q:p!)(h:Q (.bool (decide (c<a))) s):
  wpAny q_ A (richCompare .Gt gt_ mS!) Q E s:=
 (PyProof.Rows.gt_int h:wpAny q_ A (compareOp .Gt gt_ mS!) Q E s)
section
open PySem.SeqAt
open PySem.AutoSeq1 (wpAny_loadPart')
open PySem.MeetsSeq PySem.MeetsSeq2 PySem.MeetsSeq3
def xM(l b:xh!)(items jo:aa!)(n n2:Nat)(dd lf:a4_)(sl jd:b6!)(ns ms:D!)(hi:z7_)(hj:z8!):
  Meets (Builtin.«tuple.__gt__» ⟨[.ref l,.ref b],[]⟩)
   (λ_ R s=>s.heap.get? l=some {cls:=.type "tuple",dict:=dd,data:=.seq items n,slots:=sl}/\s.heap.get? b=some {cls:=.type "tuple",dict:=lf,data:=.seq jo n2,slots:=jd}/\
    R (.ok (.ret pN_)) s):=
 .of_wp λprog w A R s h=>by
  obtain⟨hp,g,d,tk,os⟩:=s;obtain⟨hl,O,h⟩:=h;have f2:=AutoSeq1.sub_tuple_tuple;have z1:c8!=cv!:=by rw[<-hi.length];simp
  have z2:jo.size=pO_:=by rw[<-hj.length];simp
  wp_walk using PX hl,PX O,PK _ (λrest b s'=>b.1=none/\s'=hb!/\∃(vs ws:h_) (p7 p8:D!),rest=vs.zip ws/\
   IntsAre vs p7/\IntsAre ws p8/\p7.length+jo.size=p8.length+c8!/\R (.ok (.ret (.bool (lexLt p8 p7)))) hb!) _
  case turn=>
   rintro⟨y,x⟩ rest b s' ⟨cg,rfl,vs,ws,p7,p8,hz,yx,v8,ak,hR⟩;cases yx with
   |nil=>rw[List.zip_nil_left]at hz;cases hz
   |cons a t YD=>
    cases v8 with
    |nil=>rw[List.zip_nil_right]at hz;cases hz
    |cons c u YE=>
     rw[NT]at hz;injection hz with YF YG
     injection YF with hy L
     subst hy L;rw[lexLt_cons]at hR;simp only[GS]at ak;obtain⟨e,he,UC⟩:=c0m A.in1 hb! a t c u;refine GF (he prog w _ _ ?_);cases e with
     |true=>
      rw[GU (UC.mp rfl).symm]at hR
      wp_walk
      exact⟨rfl,rfl,_,_,_,_,YG,YD,YE,r!,hR⟩
     |false=>
      rw[GL (λq=>absurd (UC.mpr q.symm) HF)]at hR;have YH:=b7e A.in1 hb! a t c u prog w
      wp_walk using YH
      exact⟨_,rfl,by simpa using hR⟩
  case fin=>
   rintro⟨b1,b2⟩ s' ⟨cg,rfl,vs,ws,p7,p8,hz,yx,v8,ak,hR⟩;simp only at cg;subst cg;have hv:lexLt p8 p7=decide (jo.size<c8!):=by
    cases yx with
    |nil=>
     cases v8 with
     |nil=>
      simp only[KF]at ak;rw[lexLt_nil_nil];exact(GZ a!).symm
     |cons c u hw=>
      simp only[KF,GS]at ak;rw[wD];exact(GZ a!).symm
    |cons a t hv=>
     cases v8 with
     |nil=>
      simp only[KF,GS]at ak;rw[wC];exact(HN a!).symm
     |cons c u hw=>
      rw[NT]at hz;cases hz
   rw[hv]at hR
   wp_walk
   exact⟨_,rfl,by simpa[Builtin.Tuple.tupleCompareSizes]using hR⟩
  case h=>
   exact⟨rfl,rfl,items.toList,jo.toList,ns,ms,rfl,hi,hj,r!,h⟩
end
section
variable{prog:xR!}{w:xM!}{A:xz!}{E:Value->Shared->Prop}{s:zS!}
def gt_tupInts{b:xh!}{items jo:aa!}{ns ms:D!}{Q:p!}(hl:IsTup s.heap l items)(O:IsTup s.heap b jo)(hi:z7_)(hj:z8!)
  (hu:an!)(h:Q pN_ s):wpAny q_ A (compareOp .Gt (.ref l) dS!) Q E s:=by
 obtain⟨⟨cls,dd,data,sl⟩,ho,hc,n,hd⟩:=id hl;obtain⟨⟨SH,lf,data2,jd⟩,je,jf,n2,jg⟩:=id O;simp only at hc hd jf jg;subst hc hd jf jg;exact richCompare_meets_room (op:=.Gt) iX_ iY! PySem.F.slot_tuple_gt PySem.F.entry_tuple_gt (PySem.F.args_tuple_gt_2 _ _) (xM l b items jo n n2 dd lf sl jd ns ms hi hj)
  ⟨ho,je,show Value.bool (lexLt ms ns)≠Value.notImplemented/\Q pN_ s from⟨(λx=>nomatch x),h⟩⟩ hu
end
end HT
namespace DL
open PySem PySem.Spec PyProof.Rows L2
section
variable{X:Cx}{own bh:List Nat}{a b e tg o:Expr}{es:List Expr}{p pos:Pos}{fa fb f:Ad->Option D}
def BA(K:zT!):R2:=λx y H Q=>∃a b ns ms,x=.ref a/\y=.ref b/\Fz K H a b6_/\Fz K H b (ms.map V.int)/\Q (.bl pQ!) H
def c7g(hu:X.A.units<cLine):Gq X sg! (BA X.K):=by intro J s Z H x y v u Q I rx ry h;obtain⟨a,b,ns,ms,rfl,rfl,ha,O,q⟩:=h;cases rx;cases ry;obtain⟨its,r1,p1,_⟩:=I.tuple ha;obtain⟨gi,r2,p2,_⟩:=I.tuple O;have i1:IntsAre its.toArray.toList ns:=wS r1;have i2:IntsAre gi.toArray.toList ms:=wS r2;exact HT.gt_tupInts p1 p2 i1 i2 hu ⟨.bl pQ!,H,I,rfl,q⟩
def Rs:List D->Option (List Int)
 |[]=>some []
 |.int i::r=>(Rs r).map (i::·)
 |_=>none
def qU{K:zT!}{G:Hp}:∀{ds:b_} {vs:k!} {ns:D!},Am K G ds vs->Rs ds=some ns->vs=ns.map V.int
 |[],vs,ns,r,e=>by cases cU r;cases e;rfl
 |d::ds,vs,ns,r,e=>by
  obtain⟨v,t,rfl,r1,r2⟩:=bQ r;cases d<;>simp only[Rs]at e<;>first|(cases e;done)|skip
  obtain⟨l,e1,rfl⟩:=GR.mp e;rw[qU r2 e1];cases aX r1;rfl
def AC:D->D->Option D
 |.tup xs,.tup ys=>(Rs xs).bind λns=>(Rs ys).map λms=>.bl pQ!
 |_,_=>none
def c7p{K:zT!}:Ic K (BA K) AC:=by
 show"!0";unfold AC at e;show"!6"
 .obtain⟨ns,e1,e⟩:=GG.mp e;obtain⟨ms,e2,rfl⟩:=GR.mp e;show"!V";obtain⟨b,ws,rfl,qb,rb⟩:=bN ry;rw[qU ra e1]at qa;rw[qU rb e2]at qb;exact⟨a,b,ns,ms,rfl,rfl,jI!,n4!,d9_⟩
 .cases e
def b5t(hg:iq_)(hm:iq!)(ha:Q_)(O:cd_)(hs:rV_:=by rfl)(bi:rW!:=by rfl)
  (c9:starEach (a::[b]) X.env=dK_::starEach [b] X.env:=by rfl)(jk:starEach (b::[]) X.env=ir_::starEach [] X.env:=by rfl):DI X own tg rW_ (Si fa fb):=
 a7q (b4n hg hm (dC ha.ok (dC O.ok fB jk) c9) hs bi) λZ G H R ρ ds er e k=>by
  obtain⟨x,e1,e3⟩:=GG.mp e;obtain⟨y,e2,e4⟩:=GG.mp e3;clear e e3;split at e4
  .rename_i i j;split at e4
   .rename_i h;cases e4;refine xN!;cases aX r1;cases aX r2;refine⟨i,j,rfl,r!,k _ G2 H2 dj_ ?_⟩;intro n G' H' g1 g2;unfold Rz;refine wh_;rw[HY]at hd;obtain⟨m,hj,rfl⟩:=GR.mp hd;obtain⟨hl,he⟩:=HC.mp hj;rw[NU]at he;subst he;rw[KZ]at hl;refine⟨hl,ea!⟩;obtain⟨z1,z2⟩:=hy;subst z1 z2;exact⟨G',Ce.refl g2,Ar.int⟩
   .cases e4
  .cases e4
def Xl:V->List V->Hp->VK->Prop:=λx vs H Q=>∃l xs k y,x=.ref l/\vs=[.int (k:Nat),y]/\H l=some J_/\k<=i_/\i_<sizeLine/\Q .non (upd H l (.lst (xs.take k++y::xs.drop k)))
def b5b:CS X "list.insert" Xl:=by
 intro J s Z H x vs v us Q I rx rv h;obtain⟨l,xs,k,y,rfl,rfl,hH,hk,hz,q⟩:=h;cases rx;obtain⟨u,u2,rfl,⟨t,rfl⟩,ru⟩:=b1c rv;obtain⟨z,its,n,r,hl,e⟩:=I.lstM hH;have xr:¬(!Builtin.List.listFitsIndex (k:Int))=true:=by
  rw[fitsIndex_both (Int.le_trans c! (Int.natCast_nonneg k)) (Int.lt_of_le_of_lt (Int.ofNat_le.mpr (HR hk (LL hz))) v5_)];exact HF
 have hsz:a5_<=sizeLine:=by rw[GQ];omega
 refine QF (S:=?S) PySem.F.slot_list_insert da! PySem.F.entry_list_insert (PySem.F.args_list_insert_3 _ _ _) ?g ?h
 case g=>exact @PySem.AutoSeq1.list_insert_list_int_val_1 l its.toArray n (k:Int) t u2 xr hsz
 refine eZ_;refine⟨.non,_,I.lset (its':=its.take k++u2::its.drop k) hH e ?_ ((r.take k).append (.cons ru (r.drop k))) ?_,rfl,q⟩
 .have B:¬aY!<0:=by omega
  have Y:min (aY!).toNat a5_=k:=by simp;omega
  simp only[B,IB,Y];simp[List.extract_eq_drop_take];rw[OO c_]
 .simp only[GW,GS,OK,QO];omega
def Wh(i:Nat)(fk f:d_):Ad->Option Fl:=λρ=>(fk ρ).bind λx=>(ag!).bind λd=>match x,ρ[i]? with
 |.int j,some (some (.lst ds))=>if 0<=j/\j.toNat<=f_/\f_<big then some (.nx (ρ.set i (some (.lst (ds.take j.toNat++d::ds.drop j.toNat)))))else none
 |_,_=>none
def b5s{i:Nat}{x:Str}{ag ab:Pos}{fk:d_}(bp:d3_:=by decide)(hk:DE X own ek fk)(h:dj!)(hN:ah_:=by rfl)(hv:cU_:=by first|exact Or.inl rfl|exact Or.inr a_|exact Or.inr bl_)
  (hd:F!:=by decide)(bv:cV!:=by decide)
  (bz:starEach (ek::[e]) X.env=(false,eval ek X.env)::starEach [e] X.env:=by rfl)(YI:jR!:=by rfl)(gj:((backTo ab (starEach [ek,e] X.env)).all cy!&&(cy_).all cz!
   &&decide ([ek,e].length+(dT_).length+eX!<30))=true:=by rfl) (dh:cx_:=by rfl)
  (df:attributeBase bn! "insert" X.env jR_=eval bn! X.env:=by rfl) (gk:(je_).any b!=false:=by rfl) (j7:swapsWith Ac! none pos.line X.env=pure false:=by rfl):
  DS X own own (.Expr Ac! pos) (Wh i fk f):=⟨λG0 F0 J s Z H E I ⟨G,ρ,r,er,e',k⟩=>by
  refine tZ (zC LD PySem.F.slot_list_insert PySem.F.type_list_insert b5b jB_ (dC hk.ok (dC h.ok fB YI) bz) df gj dh bz gk) j7 J s Z H E I ?_;obtain⟨z,e1,e4⟩:=GG.mp e';obtain⟨d,e3,e2⟩:=GG.mp e4;clear e' e4;obtain⟨p,ds,vs,B,Y,h3,h4,h5⟩:=er.or.own_ i bp;rw[B]at e2;cases z<;>first|(cases e2;done)|skip
  rename_i j;simp only at e2;split at e2
  .rename_i hj;cases e2;refine⟨ff_,Y,oj!,G,ρ,_,er.or,e1,λv G' H' x r=>⟨G',ρ,d,er.or.grow x,e3,λv2 G2 H2 x2 r2=>?_⟩⟩;cases aX r;have hl:=aI h5;refine⟨p,vs,j.toNat,v2,rfl,?_,wA!,r!,by rw[<-hl];exact HH hj.2.2 jS!,?_⟩
   .rw[Int.toNat_of_nonneg hj.1]
   .have h6:=(oj_).mono x2.g;exact k G2 Z _ (((gZ!).grow x2).upd bp Y (cS (mE _ h6) (Am.cons r2 (qV _ h6))))
  .cases e2⟩
end
end DL
namespace DL
open PySem PySem.Spec PyProof.Rows L2
section
variable{X:Cx}{own bh:List Nat}{a b e tg o:Expr}{es:List Expr}{p p2 pos:Pos}{fa fb fo f:WE}{fs:WA}
def We(i:Nat)(f:WE):WS:=λρ M R=>f ρ M λd M1=>Dw po_ λq=>match ρ[i]? with
 |some (some (.lst ds))=>f_+kK!<=big/\R (.nx (ρ.set i (some (.lst (ds++q.2))))) M1
 |_=>False
def b5e{i:Nat}{x:Str}{ag ab:Pos}(bp:d3_:=by decide)(h:bS!)(hN:ah_:=by rfl)(hv:cU_:=by first|exact Or.inl rfl|exact Or.inr a_|exact Or.inr bl_)
  (hd:F!:=by decide)(bv:cV!:=by decide)
  (bz:jR!:=by rfl)(gj:((je_).all cy!&&(cy_).all cz!
   &&decide wv_)=true:=by rfl) (dh:cx_:=by rfl)
  (df:attributeBase bn! "extend" X.env jR_=eval bn! X.env:=by rfl) (gk:g1!:=by rfl) (j7:swapsWith Ad! none pos.line X.env=pure false:=by rfl):
  MS X own own (.Expr Ad! pos) (We i f):=
 pA (tZ (zC LD PySem.F.slot_list_extend PySem.F.type_list_extend b5c jB_ wx! df gj dh bz gk) j7) λM0 G0 F0 E Z G H ρ M R sr e' k1 k2=>by
  obtain⟨p,ds,vs,B,Y,h3,h4,h5⟩:=sr.st.or.own_ i bp;refine⟨ff_,Y,oj!,G,ρ,M,_,sr.st,e',zz_⟩;obtain⟨⟨c,zs⟩,e1,r⟩:=cG r;obtain⟨z1,z2,z3,us,h6,h7⟩:=qE m q e1;cases z2;rw[B]at r;have dz:=sr.grow x m;obtain⟨p',rq,f9,g1,g2,g3,g4,g5⟩:=dz.st.or.own_ i bp;rw[Y]at g2;cases g2;rw[B]at g1;cases g1;refine⟨p,c,f9,us,rfl,rfl,g3,h6,?_,k1 _ M' G' Z _ r.2 (dz.after (dz.sr.upd bp Y (cS g5 h7)))⟩;have:=r.1;rw[<-aI g5,<-aI h7];exact cP this
def Pr(s0:Str)(fa:WE):WE:=λρ M R=>fa ρ M λy M2=>Dw (Lj (.str s0) y) λd=>R d M2
def b2r{s0:Str}{n0:Nat}{ag ab:Pos}(ha:Z_)
  (df:attributeBase kY_ "join" X.env (eval kY_ X.env)=eval kY_ X.env:=by rfl)
  (gj:((oy_).all cy!&&(cy_).all cz!
   &&decide oz!)=true:=by rfl)
  (dh:cx_:=by rfl) (hs:jN_:=by rfl) (gk:g1!:=by rfl):
  ME X own (.Call (.Attribute kY_ "join" ag) [a] [] ab) (Pr s0 fa):=
 eC (zC PySem.F.plainAttrs_str PySem.F.slot_str_join PySem.F.type_str_join b2p b8a w3_ df gj dh hs gk) λZ G H Q ρ M R st e k=>⟨rfl,G,ρ,M,_,st,e,λy M2 w G2 H2 r2 x2 m2 q2=>by
  obtain⟨d,e3,r3⟩:=cG r2;cases y<;>first|(cases e3;done)|skip
  rename_i xs;obtain⟨ys,e4,e5⟩:=GG.mp (show((Mg xs).bind λys=>if(g8!).sum+M_*s0.length<=big then some (.str (Txt.join s0 ys))else none)=some d from e3);split at e5
  .rename_i hl;cases e5;obtain⟨p,vs,rfl,q,rr⟩:=bJ q2;have:=vF rr e4;subst this;exact⟨_,p,ys,rfl,rfl,x2.sub.seq q,HR hl c!,k _ M2 _ G2 H2 r3 x2 m2 Ar.str⟩
  .cases e5⟩
def Wb(fs:WA)(fb:WE):WE:=λρ M R=>fs ρ M λds M1=>f_<=1000/\fb ρ M1 λy M2=>match y with
 |.int k=>(0<=k/\k<=1000/\f_*k.toNat<=1000)/\∀p,M2 p=none->R x! (Ay M2 p (.lst (List.replicate k.toNat ds).flatten))
 |_=>False
def c0j{G H:Hp}{p:xh!}{o:HO}(s:K!)(hp:cE!):Ce G H G e9!:=⟨e9_,hX hp,s.trans (hX hp),dm!⟩
def a5j{K:zT!}{G:Hp}(r:gZ_):∀k:Nat,Am K G (List.replicate k ds).flatten (List.replicate k vs).flatten
 |0=>Am.nil
 |k+1=>by
  rw[KC,KC,LV,LV];exact cS r (a5j r k)
def c3l(ha:ku_)(O:ci_):ME X own (.BinOp (.List es p2) .Mult b pos) (Wb fs fb):=
 eC (b2a c7a (a1j ha.ok) O.ok) λZ G H Q ρ M R st e k=>⟨G,ρ,M,_,st,e,λds M1 vs G1 H1 r1 x1 m1 q1=>⟨by rw[<-aI q1];exact gF r1.1,λp hp=>by
  have xj:Ce G1 H1 G1 (upd H1 p dh_):=c0j x1.sub hp;have hM:M1 p=none:=m1.nocell hp;refine⟨G1,ρ,M1,_,(fy!).grow (.ext xj) (m1.ext xj),r1.2,λy M2 v G2 H2 r2 x2 m2 q2=>?_⟩;cases y<;>first|exact r2.elim|skip
  rename_i n;cases aX q2;obtain⟨⟨hn,ie,hl⟩,r2⟩:=r2;have YJ:H2 p=some dh_:=x2.keep p _ bP hM;refine⟨p,n,vs,rfl,rfl,YJ,r!,r!,by rw[<-aI q1];exact gF hl,ke_⟩;have YK:=(x1.trans (.ext xj) m1).trans x2 (m1.ext xj);exact k _ _ _ G2 _ (r2 c (m2.nocell hc)) (YK.trans (.laid x2.sub hc) m2) (m2.laid hc x2.sub ⟨_,bP,a5j bS_ _⟩) Ar.fn⟩⟩
end
nonrec def rk(r:fC_)(xs:cm!)(i:Nat):Int:=(xs[i]?.map r).getD 0
def b7b{r:fC_}{xs:cm!}{c d:Nat}(hs:c<xs.size)(hd:d<=c)(k:Nat):rk r (bubble xs c d) k=if k=c - d then rk r xs c else if c - d<k/\k<=c then rk r xs (k - 1)else rk r xs k:=by
 unfold rk;rw[getElem?_bubble hs d hd k];split
 .rfl
 .split<;>rfl
def a9c{r:fC_}{xs:cm!}{i j:Nat}(hj:j<=xs.size)(k:Nat):rk r Ae! k=if i<=k/\k<j then rk r xs (i+j - 1 - k)else rk r xs k:=by unfold rk;rw[getElem?_mirror_all hj k];split<;>rfl
def oS{r:fC_}{xs:cm!}{i j:Nat}(hj:j<=xs.size)(he:∀k,i<=k->k<j->rk r xs k=rk r xs ep_)(k:Nat):rk r Ae! k=rk r xs k:=by
 rw[a9c hj];by_cases h:i<=k/\k<j
 .rw[GU h,he _ a! a!,he k h.1 h.2]
 .rw[GL h]
def Up(r:fC_)(xs:cm!)(n:Nat):Prop:=∀i j,i<=j->j<n->rk r xs i<=rk r xs j
def Dn(r:fC_)(xs:cm!)(n:Nat):Prop:=∀i j,i<=j->j<n->rk r xs j<=rk r xs i
structure SB(kd:SortKind)(a0:cm!)(st:SortSt):Prop where
 pm:(C!).Perm a0
 kn:kindOf st=kd
 fl:failedOf st=none
 pd:pendingOf st=#[]
def SB.sz{kd:SortKind}{a0:cm!}{st:SortSt}(h:cm_):(C!).size=a0.size:=h.pm.size_eq
def SB.put{kd:SortKind}{a0 xs:cm!}{st:SortSt}(h:cm_)(hp:xs.Perm C!):SB kd a0 (setArr st xs):=⟨hp.trans h.pm,h.kn,h.fl,h.pd⟩
section
variable{prog:xR!}{w:xM!}{A:xz!}{E:Value->Shared->Prop}{s:zS!}{a0:Array Keyed}{kd:SortKind}{r:Keyed->Int}
variable (prog w A s a0 kd r)in
def Ua:Prop:=∀(x y:Keyed) (F:p!) (Q:ef_),x∈hF!->y∈hF!->Q (decide (r x<r y)) s->wpAny q_ A (keyLt' kd x.1 y.1) Q F s
def b6y{st:SortSt}{i j:Nat}{Q:Option Bool->SortSt->Prop}(hl:dw!)(b:cm_)(hi:i<a0.size)(hj:j<a0.size)(h:Q (some (decide (rk r C! i<rk r C! j))) st):wpS q_ A E s (ltAt' i j) Q st:=by
 have at_:∀k,k<a0.size->∃p,C![k]?=some p/\p∈hF!/\rk r C! k=r p:=λk hk=>by
  have cr:k<(C!).size:=by rw[b.sz];exact hk
  refine⟨C![k],Ae_,(Array.perm_iff_toList_perm.mp b.pm).mem_iff.mp c_,?_⟩;unfold rk;rw[Ae_];rfl
 obtain⟨x,ex,mx,rx⟩:=at_ i hi;obtain⟨y,ey,my,ry⟩:=at_ j hj;rw[rx,ry]at h;rw[ltAt'_eq];refine JC fE!;show wpS q_ A E s (elem' C! i>>=λx=>elem' C! j>>=λy=>lt' x y) Q st;rw[elem'_eq,elem'_eq,ex,ey];refine JC (KJ (JC (KJ ?_)));rw[lt'_eq];refine JC fE!;rw[b.kn];exact JC (wpS_lift (NV (hl x y _ _ mx my ⟨rfl,KJ h⟩)))
def c5k{st:SortSt}{a n:Nat}{Q:AscSt->SortSt->Prop}(hl:dw!)(hn:fE_)(ha:1<=a)(YL:a<=n)(b:cm_)(hu:Up r C! a)
  (h:∀m,a<=m->m<=n->Up r C! m->(m=n\/rk r C! m<rk r C! hF_)->Q (none,m) st):wpS q_ A E s (ascLoop a n) Q st:=by
 unfold ascLoop;refine PN (I:=λx c h1=>h1=st/\c=(none,x)/\Up r C! x) ?_ ?_ ⟨rfl,rfl,hu⟩
 .rintro x c h1 B Y ⟨rfl,rfl,u⟩;refine JC (b6y hl b (HH Y hn) a! ?_);by_cases q:rk r A_ x<rk r A_ hG!
  .rw[HN q];exact KJ (h x B (LL Y) u (.inr q))
  .rw[GZ q];refine KJ ⟨rfl,rfl,Af_⟩;obtain h5|h5:=KN j x
   .exact u i j h3 h5
   .have:j=x:=by omega
    subst this;obtain h6|h6:=KN i j
    .have:=u i ep_ a! a!;omega
    .have:i=j:=by omega
     rw[this];exact KW _
 .rintro c h1 ⟨rfl,rfl,u⟩;rw[show max a n=n by omega]at u ⊢;exact h n YL y_ u aA!
def b6v{st:SortSt}{m n:Nat}{Q:pU_}(hl:dw!)(hn:fE_)(B:1<=m)(hm:m<=n)(b:cm_)(hd:Dn r C! m)
  (h:pV!):wpS q_ A E s (tail3 m n) Q st:=by
 unfold tail3;have b':SB kd a0 (setArr st (mirror C! 0 m ((m - 0) / 2))):=b.put k0!;have hz:m<=(C!).size:=by rw[b.sz];omega
 refine JC (wpS_reverse (JC (c5k hl hn B hm b' (λi j h3 h4=>?_) λk h3 h4 u _=>KJ (h k _ b' a! h4 u))));rw[a9c hz,a9c hz,aX_,aX_];exact hd _ _ a! a!
def c6k{st:SortSt}{m n:Nat}{Q:DescSt->SortSt->Prop}(hl:dw!)(hn:fE_)(B:1<=m)(hm:m<=n)(b:cm_)(hd:Dn r C! m)
  (h:∀k q h1,SB kd a0 h1->m<=k->k<=n->Dn r A_ k->q+1<=k->(∀i,k - (q+1)<=i->i<k->rk r A_ i=rk r A_ (k - 1))->Q (none,k,q) h1):wpS q_ A E s (descLoop m n) Q st:=by
 unfold descLoop;refine PN (I:=λx c h1=>∃q,c=(none,x,q)/\SB kd a0 h1/\Dn r A_ x/\q+1<=x/\∀i,x - (q+1)<=i->i<x->rk r A_ i=rk r A_ hG!) ?_ ?_ ⟨0,rfl,b,hd,r!,λi Y h3=>by rw[show i=m - 1 by omega]⟩
 .rintro x c h1 Y h3 ⟨q,rfl,b',d,hq,he⟩;have hz:x<=(A_).size:=by rw[b'.sz];omega
  refine JC (b6y hl b' (HH h3 hn) Ai! ?_);by_cases p:rk r A_ x<rk r A_ hG!
  .rw[HN p];have pe:∀xs:Array Keyed,(∀k,rk r xs k=rk r A_ k)->Dn r xs (x+1):=λxs hk i j h4 h5=>by
    rw[hk,hk];obtain h6|h6:=KN j x
    .exact d i j h4 h6
    .have:j=x:=by omega
     subst this;obtain h7|h7:=KN i j
     .have:=d i ep_ a! a!;omega
     .show"#7"
   by_cases tf:q>0
   .simp only[IL,tf];exact JC (wpS_reverse (KJ ⟨0,rfl,b'.put k0!,pe _ (oS hz he),r!,Ai_⟩))
   .simp only[IL,tf,IB];exact KJ ⟨0,rfl,b',pe _ λ_=>rfl,r!,Ai_⟩
  .rw[GZ p];show"#$";refine JC (b6y hl b' Ai! (HH h3 hn) ?_);by_cases p2:rk r A_ hG!<rk r A_ x
   .rw[HN p2];exact KJ (h x q h1 b' Y (LL h3) d hq he)
   .rw[GZ p2];have ex:rk r A_ x=rk r A_ hG!:=by omega
    refine KJ ⟨q+1,rfl,b',λi j h4 h5=>?_,r!,λi h4 h5=>?_⟩
    .obtain h6|h6:=KN j x
     .exact d i j h4 h6
     .have:j=x:=by omega
      subst this;obtain h7|h7:=KN i j
      .rw[ex];exact d i ep_ a! a!
      .show"#7"
    .rw[show x+1 - 1=x by omega];obtain h6|h6:=KN i x
     .rw[ex];exact he i a! h6
     .rw[show i=x by omega]
 .rintro c h1 ⟨q,rfl,b',d,hq,he⟩;rw[show max m n=n by omega]at d hq he ⊢;exact h n q h1 b' hm y_ d hq he
def b6x{st:SortSt}{m n:Nat}{Q:pU_}(hl:dw!)(hn:fE_)(hm:m+1<=n)(b:cm_)(hd:Dn r C! (m+1))
  (h:pV!):wpS q_ A E s (descPart m n) Q st:=by
 unfold descPart;refine JC (wpS_lift (JZ ⟨rfl,JC (c6k hl hn a! hm b hd λk q h1 b' B Y d hq he=>?_)⟩));by_cases tf:q>0
 .simp only[IL,tf];refine JC (wpS_reverse (b6v hl hn a! Y (b'.put k0!) (λi j h4 h5=>?_) h));have hz:k<=(A_).size:=by rw[b'.sz];omega
  rw[oS hz he,oS hz he];exact d i j h4 h5
 .simp only[tf,IB];exact b6v hl hn a! Y b' d h
def c2j{st:SortSt}{n:Nat}{Q:pU_}(hl:dw!)(hn:fE_)(B:1<=n)(b:cm_)(h:pV!):
  wpS q_ A E s (countRun' 0 n) Q st:=by
 rw[countRun0_eq];refine JC (c5k hl hn (HD 1) B b (λi j h3 h4=>by rw[fF_];exact KW _) λm h3 h4 u YM=>?_);by_cases e:m=n
 .simp only[LU,e,IL];rw[<-e];exact KJ Ak!
 .have am:rk r C! m<rk r C! hF_:=YM.resolve_left e;simp only[LU,e,IB];by_cases hg:m>1
  .simp only[hg,IL];refine JC (b6y hl b a! a! ?_);by_cases p:rk r C! 0<rk r C! hF_
   .rw[HN p];exact KJ Ak!
   .rw[GZ p];have tj:∀k,0<=k->k<m->rk r C! k=rk r C! hF_:=λk _ hk=>by
     have a1:=u 0 k a! hk;have a2:=u k hF_ a! a!;omega
    have hz:m<=(C!).size:=by rw[b.sz];omega
    refine JC (wpS_reverse (b6x hl hn a! (b.put k0!) Ak_ h));rw[oS hz tj,oS hz tj];obtain h7|h7:=KN j m
    .rw[tj i a! a!,tj j a! h7];exact KW _
    .have:j=m:=by omega
     subst this;obtain h8|h8:=KN i j
     .rw[tj i a! h8];omega
     .show"#7"
  .simp only[hg,IB];have:m=1:=by omega
   subst this;refine b6x hl hn a! b Ak_ h;obtain h8|h8:=KN i j
   .rw[show i=0 by omega,show j=1 by omega];exact Int.le_of_lt am
   .show"#7"
def c7u{lo hi k x n:Nat}(h:¬lo>=hi)(g2:hi<=k)(g3:hi - lo<=k - x)(hk:k<n):lo<=cO_ / 2/\cO_ / 2<hi/\cO_ / 2<k/\cO_ / 2<n/\cO_ / 2 - lo<=k - (x+1)/\hi - (cO_ / 2+1)<=k - (x+1):=by omega
def d0k{st:SortSt}{n k0:Nat}{Q:Bool->SortSt->Prop}(hl:dw!)(hn:fE_)(hk:k0<=n)(b:cm_)(hu:Up r C! k0)(h:∀h1,SB kd a0 h1->Up r A_ n->Q true h1):
  wpS q_ A E s (binarySort' 0 n k0) Q st:=by
 rw[binarySort'_eq];simp only[OV];refine JC (wpS_mono (PN (I:=λk c h1=>c=fq_/\SB kd a0 h1/\Up r A_ (min k n)) (Q:=λc h1=>c=fq_/\SB kd a0 h1/\Up r A_ n) ?_ ?_ ⟨rfl,b,Af_⟩) ?_)
 .rintro k c h1 Y h3 ⟨rfl,b',u⟩;rw[show min k n=k by omega]at u;have kh:k<a0.size:=by omega
  refine JC (wpS_mono (PN (I:=λx c bj=>bj=h1/\∃lo hi,c=(none,lo,hi)/\lo<=hi/\hi<=k/\hi - lo<=k - x/\Am!/\∀i,hi<=i->i<k->rk r A_ k<rk r A_ i)
   (Q:=λc bj=>bj=h1/\∃lo hi,c=(none,lo,hi)/\lo<=k/\Am!/\∀i,lo<=i->i<k->rk r A_ k<rk r A_ i) ?_ ?_ ⟨rfl,0,k,rfl,r!,r!,r!,λi hi=>by omega,λi h4 h5=>by omega⟩) ?_)
  .rintro x c bj h4 h5 ⟨rfl,lo,hi,rfl,g1,g2,g3,g4,g5⟩;show"#<";by_cases yy:lo>=hi
   .rw[GU yy];have:lo=hi:=by omega
    subst this;exact KJ An!
   .rw[GL yy];obtain⟨m1,m2,m3,m4,m5,m6⟩:=c7u yy g2 g3 kh;refine JC (b6y hl b' kh m4 ?_);by_cases p:rk r eq! k<rk r eq! pY!
    .rw[HN p];exact KJ ⟨rfl,lo,cO_ / 2,rfl,m1,LL m3,m5,g4,λi h6 h7=>Int.lt_of_lt_of_le p (u pY! i h6 h7)⟩
    .rw[GZ p];exact KJ ⟨rfl,cO_ / 2+1,hi,rfl,m2,g2,m6,λi h6=>Int.le_trans (u i pY! (Nat.le_of_lt_succ h6) m3) (Int.not_lt.mp p),g5⟩
  .rintro c bj ⟨rfl,lo,hi,rfl,g1,g2,g3,g4,g5⟩;have:lo=hi:=by omega
   subst this;exact An!
  .rintro c bj ⟨rfl,lo,hi,rfl,g1,g4,g5⟩;rw[moveDown'_eq];refine JC (wpS_modify (KJ ⟨rfl,b'.put (bubble_perm _ _ _),λi j h6 h7=>?_⟩));rw[show min P_ n=k+1 by omega]at h7;have nu:k<(eq!).size:=by rw[b'.sz];exact kh
   rw[b7b nu a!,b7b nu a!,show k - (k - lo)=lo by omega];have n1:∀m,m<lo->rk r eq! m<=rk r eq! k:=g4;have n2:∀m,lo<=m->m<k->rk r eq! k<rk r eq! m:=g5;by_cases ei:i=lo
   .rw[GU ei];by_cases ej:j=lo
    .rw[GU ej];exact KW _
    .rw[GL ej];by_cases fj:lo<j/\j<=k
     .rw[GU fj];exact Int.le_of_lt (n2 ep_ a! a!)
     .omega
   .rw[GL ei];by_cases fi:lo<i/\i<=k
    .rw[GU fi,GL a!,aX_];exact u (i - 1) ep_ a! a!
    .rw[GL fi];by_cases ej:j=lo
     .rw[GU ej];exact n1 i a!
     .rw[GL ej];by_cases fj:lo<j/\j<=k
      .rw[GU fj];exact u i ep_ a! a!
      .rw[GL fj];exact u i j h6 a!
 .rintro c h1 ⟨e,b',u⟩;rw[show min (max (max k0 1) n) n=n by omega]at u;exact⟨e,b',u⟩
 .by_cases h0:k0=0
  .show"#7"
  .exact hu i j h3 a!
 .rintro c h1 ⟨rfl,b',u⟩;exact KJ (h h1 b' u)
def b6w{st:SortSt}{Q:Unit->SortSt->Prop}(hl:dw!)(b:cm_)(Y:2<=a0.size)(nz:a0.size<64)
  (h:∀h1,(A_).Perm a0->failedOf h1=none->Up r A_ a0.size->Q () h1):wpS q_ A E s sortRuns' Q st:=by
 rw[sortRuns'_eq];refine JC fE!;have YN:minRun' a0.size a0.size 0=a0.size:=by
  have:∀f,minRun' (f+1) a0.size 0=a0.size:=λf=>by rw[minRun'_succ,GU nz];rfl
  have q:=this (a0.size - 1);rwa[show a0.size - 1+1=a0.size by omega]at q
 dsimp only;simp only[b.sz,YN];have fin:∀{h1:SortSt},SB kd a0 h1->Up r A_ a0.size->(arrOf k1_).Perm a0/\failedOf k1_=none/\pendingOf k1_=#[k1!]/\Up r (arrOf k1_) a0.size:=
  λ{h1} b' u=>⟨b'.pm,b'.fl,by show(Aq!).push _=_;rw[b'.pd];rfl,u⟩
 refine JC (wpS_mono (PN (I:=λx c h1=>(x=0/\c=(none,0)/\SB kd a0 h1)\/(1<=x/\c=Aq_/\(A_).Perm a0/\failedOf h1=none/\pendingOf h1=#[k1!]/\Up r A_ a0.size))
  (Q:=λc h1=>c=Aq_/\(A_).Perm a0/\failedOf h1=none/\pendingOf h1=#[k1!]/\Up r A_ a0.size) ?_ ?_ (.inl ⟨rfl,rfl,b⟩)) ?_)
 .rintro x c h1 _ L (⟨rfl,rfl,b'⟩|⟨_,rfl,d⟩)
  .show"#<";rw[GL a!];simp only[Nat.sub_zero,Nat.min_self,OV];refine JC (c2j hl y_ a! b' λm bj b2 g1 g2 u2=>?_);by_cases am:m<a0.size
   .simp only[am,IL];refine JC (wpS_lift (JZ ⟨rfl,JC (d0k hl y_ g2 b2 u2 λvf b3 u3=>?_)⟩));simp only[JY,HL,IB];refine JC fE!;rw[show(pendingOf vf).back?=none by rw[b3.pd];rfl];exact JC (wpS_modify (KJ (.inr ⟨HD 1,rfl,fin b3 u3⟩)))
   .simp only[am,IB];have:m=a0.size:=by omega
    subst this;refine JC fE!;rw[show(pendingOf bj).back?=none by rw[b2.pd];rfl];exact JC (wpS_modify (KJ (.inr ⟨HD 1,rfl,fin b2 u2⟩)))
  .show"#<";rw[GU y_];exact KJ ⟨rfl,d⟩
 .rintro c h1 (⟨L,_⟩|⟨_,e,d⟩)
  .omega
  .exact⟨e,d⟩
 .rintro c h1 ⟨rfl,d1,d2,d3,d4⟩;refine JC (wpS_mono (PN (I:=λ_ c bj=>bj=h1/\c=fq_) (Q:=λc bj=>bj=h1/\c=fq_) ?_ Ar_ bI_) ?_)
  .rintro x c bj _ _ ⟨rfl,rfl⟩;refine JC fE!;rw[GU (by rw[d3];exact HD 1)];exact KJ bI_
  .rintro c bj ⟨rfl,rfl⟩;exact KJ (h _ d1 d2 d4)
end
abbrev Xi:Bool->SortKind:=sortPriv%PySem.Builtin.KeyKind.tuples
section
variable{prog:xR!}{w:xM!}{A:xz!}{E:Value->Shared->Prop}{s:zS!}
def Hl(h:Heap)(v:xL!)(a b:Int):Prop:=∃(p:xh!) (o:Obj) (n:Nat) (t u:Tok),v=.ref p/\h.get? p=some o/\o.cls=.type "tuple"/\o.data=.seq #[.int a t,.int b u] n
def BF(a b c d:Int):Bool:=if a=c then decide (b<d)else decide (a<c)
def zE{f:Bool}{a b:Int}{Q:ef_}(h:Q (decide (a<b)) s):wpAny q_ A (oneLt' f gt_ (.int b u)) Q E s:=by
 cases f with
 |true=>exact oneLt_int h
 |false=>
  rw[oneLt'_eq];rw[GL HF];refine GF (show wpAny q_ A (compareOp .Lt gt_ (.int b u)) _ E s from PyProof.Rows.lt_int ?_);exact IH h
def wP{f:Bool}{a b c d:Int}{Q:ef_}(L:Hl s.heap x a b)(hy:Hl s.heap y c d)(h:Q (BF a b c d) s):wpAny q_ A (keyLt' (Xi f) x y) Q E s:=by
 obtain⟨p,o,n,t,u,rfl,B,_,Y⟩:=L;obtain⟨p',o',n',t',u',rfl,j9,_,nv⟩:=hy;refine GF (PP B Y (GF (PP j9 nv gj_)));show wpAny q_ A (forIn [((Value.int a t,Value.int c t'),0),((Value.int b u,Value.int d u'),1)] _ _) _ E s;rw[LQ];refine GF (GF (OI a t c t' _ _ _ _ ?_));unfold BF at h;by_cases e:a=c
 .rw[GU e]at h;have e1:(a==c)=true:=by simpa using e
  rw[e1];simp only[JY,HL,IB];refine GH ?_;show"#<";rw[LQ];refine GF (GF (OI b u d u' _ _ _ _ ?_));by_cases e2:b=d
  .have e3:(b==d)=true:=by simpa using e2
   rw[e3];simp only[JY,HL,IB];refine GH ?_;dsimp only;rw[NY];refine GH ab_;have e4:decide (b<d)=false:=by rw[e2];simp
   rw[e4]at h;simpa using h
  .have e3:(b==d)=false:=by simpa using e2
   rw[e3];simp only[OA,IL];exact GF As!
 .rw[GL e]at h;have e1:(a==c)=false:=by simpa using e
  rw[e1];simp only[OA,IL];exact GF As!
def b1b{α β:Type}{f:α->Sem β}{F:cQ_}{Q:Array β->Shared->Prop}:∀(xs:J!),As_->(∀ys,Paired F xs ys->Q ys.toArray s)->wpAny q_ A (xs.toArray.mapM f) Q E s:=by
 intro xs hf hq;rw[Array.mapM_eq_mapM_toList];have ke:∀(xs:J!) (R:List β->Shared->Prop),As_->(∀ys,Paired F xs ys->R ys s)->wpAny q_ A (xs.mapM f) R E s:=by
  intro xs
  induction xs with
  |nil=>
   intro R _ h;rw[List.mapM_nil];exact GH (h [] .nil)
  |cons x xs ih=>
   intro R B Y;rw[List.mapM_cons];refine GF (B x GO _ λy hy=>GF (ih _ (λz hz=>B z k3_) λys p9=>GH (Y _ (.cons hy p9))))
 have:(List.toArray<$>xs.toArray.toList.mapM f:Sem (Array β))=(xs.toArray.toList.mapM f>>=λl=>pure l.toArray):=by rw[map_eq_pure_bind]
 rw[this];exact GF (ke _ _ (by simpa using hf) λys p9=>GH (hq ys (by simpa using p9)))
def a6w{vs:h_}{Q:SortKind->Shared->Prop}(h:∀v∈vs,∃a b,Hl s.heap v a b)(h0:vs≠[])(hq:Q (Xi true) s):wpAny q_ A (keyKind' cx!) Q E s:=by
 refine GF (b1b (F:=λ_ y=>∃a t,y=some k4!) vs Au! λys p9=>?_)
 .obtain⟨a,b,p,o,n,t,u,rfl,B,Y,h3⟩:=h v hv;refine GF (wpAny_typeOf (T:="tuple") n9! ?_);rw[GL c!];exact GF (PP B h3 (GH (hR _ ⟨a,t,rfl⟩)))
 .have gn:∀y∈ys,∃a t,y=some k4!:=by
   have ke:∀{l:h_} {m:List tw!},Paired (λ_ y=>∃a t,y=some k4!) l m->∀y∈m,∃a t,y=some k4!:=by
    intro l m hp
    induction hp with
    |nil=>intro y hy;cases hy
    |cons q _ ih=>
     intro y hy;obtain rfl|hy:=GJ.mp hy
     .exact q
     .exact ih y hy
   exact ke p9
  have b9:ys≠[]:=λz=>by subst z;cases p9;exact h0 rfl
  rw[GU (by rw[List.all_toArray,JR];intro y hy;obtain⟨a,t,rfl⟩:=gn y hy;rfl)];refine GF ha!;have hints:∀v∈(Au_).toList,∃a t,v=Value.int a t:=λv hv=>by
   simp only[List.filterMap_toArray,LI,id]at hv;obtain⟨y,hy,e⟩:=hv;obtain⟨a,t,e2⟩:=gn y hy;rw[e2]at e;exact⟨a,t,(IG e).symm⟩
  have hz:(Au_).toList≠[]:=λz=>by
   cases ys with
   |nil=>exact b9 rfl
   |cons y r=>
    obtain⟨a,t,rfl⟩:=gn y GO;simp at z
  generalize hZ:ys.toArray.filterMap id=YO at hints hz ⊢;obtain⟨zs⟩:=YO;refine GF ?_;refine GF (b1b (F:=λ_ y=>y=Value.type "int") zs Au! λts UD=>?_)
  .obtain⟨a,t,rfl⟩:=hints v iY_;exact wpAny_typeOf (typeIs_int s a t) (hR _ rfl)
  .have UE:∀t∈ts,t=Value.type "int":=by
    have ke:∀{l m:h_},Paired (λ_ y=>y=Value.type "int") l m->∀y∈m,y=Value.type "int":=by
     intro l m hp
     induction hp with
     |nil=>intro y hy;cases hy
     |cons q _ ih=>
      intro y hy;obtain rfl|hy:=GJ.mp hy
      .exact q
      .exact ih y hy
    exact ke UD
   cases ts with
   |nil=>cases UD;exact absurd rfl hz
   |cons t r=>
    have ht:=UE t GO;subst ht;have e1:((Av_).toArray)[0]?=some (Value.type "int"):=rfl;rw[e1];have e2:((Av_).toArray.all λx=>x==Value.type "int")=true:=by
     rw[List.all_toArray,JR];intro y hy;rw[UE y hy];rfl
    show"#<";rw[GU e2];exact GH (GH hq)
end
def Kq(p q:dw_):Bool:=BF p.1 p.2 q.1 q.2
def uF{p q:dw_}:Kq p q=true↔(p.1<q.1\/(p.1=q.1/\p.2<q.2)):=by
 unfold Kq BF;split
 .rename_i h;rw[HQ];omega
 .rename_i h;rw[HQ];omega
def b2s(p:dw_):Kq p p=false:=by
 cases h:Kq p p with
 |false=>rfl
 |true=>have:=uF.mp h;omega
def jG{p q r:dw_}(B:Kq p q=true)(Y:Kq q r=true):Kq p r=true:=by rw[uF]at B Y ⊢;omega
def a2c{p q:dw_}(h:p≠q)(B:Kq p q=false):Kq q p=true:=by
 have j9:¬Kq p q=true:=by rw[B];simp
 rw[uF]at j9 ⊢;have:¬(p.1=q.1/\p.2=q.2):=λz=>h (Prod.ext z.1 z.2);omega
section
variable{α:Type}(kf:α->Int×Int)
def Qu(x:α):List α->List α
 |[]=>[x]
 |y::r=>if Kq (kf x) (kf y)then x::y::r else y::Qu x r
def Jb:List α->List α
 |[]=>[]
 |x::r=>Qu kf x (Jb r)
def On(l:J!):Prop:=l.Pairwise λx y=>Kq (kf x) (kf y)=true
variable {kf}
def rT(x:α):∀l:List α,(Qu kf x l).Perm (x::l)
 |[]=>NA _
 |y::r=>by
  unfold Qu;split
  .exact NA _
  .exact((rT x r).cons y).trans (List.Perm.swap x y r)
def cK:∀l:List α,(Jb kf l).Perm l
 |[]=>NA _
 |x::r=>(rT x _).trans ((cK r).cons x)
def wV{x:α}:∀{l:J!},On kf l->(∀y∈l,kf x≠kf y)->On kf (Qu kf x l)
 |[],_,_=>List.pairwise_singleton _ _
 |y::r,h,hn=>by
  unfold Qu;unfold On at h;rw[JE]at h;split
  .rename_i am;refine JE.mpr ⟨k5_,JE.mpr h⟩;obtain rfl|hz:=GJ.mp hz
   .exact am
   .exact jG am (h.1 z hz)
  .rename_i am;refine JE.mpr ⟨k5_,wV h.2 λz hz=>hn z k3_⟩;obtain rfl|hz:=GJ.mp ((rT x r).mem_iff.mp hz)
   .exact a2c (hn y GO) yq_
   .exact h.1 z hz
def iZ:∀{l:J!},(l.map kf).Nodup->On kf (Jb kf l)
 |[],_=>jg_
 |x::r,h=>by
  rw[GM,HA]at h;refine wV (iZ h.2) λy hy e=>h.1 ?_;rw[e];exact GP ((cK r).mem_iff.mp hy)
def oP:∀{l m:J!},On kf l->On kf m->l.Perm m->l=m
 |[],m,_,_,h=>(List.Perm.nil_eq h)
 |x::l,m,B,Y,h=>by
  cases m with
  |nil=>exact absurd h.length_eq c_
  |cons y m=>
   have e:x=y:=by
    obtain e|L:=GJ.mp (h.mem_iff.mp GO)
    .exact e
    .obtain e|hy:=GJ.mp (h.symm.mem_iff.mp GO)
     .exact e.symm
     .have a1:=(JE.mp B).1 y hy;have a2:=(JE.mp Y).1 x L;have:=jG a1 a2;rw[b2s]at this;cases this
   subst e;rw[oP (JE.mp B).2 (JE.mp Y).2 ((List.perm_cons x).mp h)]
def b7y{β:Type}{f:k6_}{l m:dA_}(h:l.Perm m):∀{ay:J!},m=ay.map f->∃L':List α,L'.Perm ay/\L'.map f=l:=by
 induction h with
 |nil=>intro ay e;exact⟨[],by rw[List.map_eq_nil_iff.mp e.symm],rfl⟩
 |cons x _ ih=>
  intro ay e;cases ay with
  |nil=>cases e
  |cons y ay=>
   injection e with e1 e2
   obtain⟨L',B,Y⟩:=ih e2;exact⟨y::L',B.cons y,by rw[GM,Y,e1]⟩
 |swap x y l=>
  intro ay e
  match ay,e with
  |a::b::ay,e=>
   injection e with e1 e2
   injection e2 with e3 e4
   exact⟨b::a::ay,List.Perm.swap a b ay,by rw[GM,GM,<-e1,<-e3,<-e4]⟩
 |trans _ _ YQ YR=>
  intro ay e;obtain⟨L2,B,Y⟩:=YR e;obtain⟨L1,h3,h4⟩:=YQ Y.symm;exact⟨L1,h3.trans B,h4⟩
def Jc(ks:fG!)(k:dw_):Int:=((ks.filter λx=>Kq x k).length:Nat)
def qS{ks:fG!}{p q:dw_}(hp:p∈ks)(h:Kq p q=true):Jc ks p<Jc ks q:=by
 unfold Jc;have ke:∀l:List hH!,(Aw_).length<=(Ax!).length:=by
  intro l
  induction l with
  |nil=>simp
  |cons x l ih=>
   simp only[QP];by_cases L:Kq x p=true
   .simp only[L,jG L h,IL,GS];omega
   .by_cases hy:Kq x q=true
    .simp only[L,hy,IL,GS];show"#$";omega
    .simp only[L,hy];show"#$";exact ih
 have YS:∀l:List hH!,p∈l->(Aw_).length<(Ax!).length:=by
  intro l hl
  induction l with
  |nil=>cases hl
  |cons x l ih=>
   obtain e|hl:=GJ.mp hl
   .subst e;have:=ke l;simp only[QP,b2s,h,IL,GS,HL,IB];omega
   .have:=ih hl;simp only[QP];by_cases L:Kq x p=true
    .simp only[L,jG L h,IL,GS];omega
    .by_cases hy:Kq x q=true
     .simp only[L,hy,IL,GS];show"#$";omega
     .simp only[L,hy];show"#$";exact this
 have:=YS ks hp;omega
def b1n{ks:fG!}{p q:dw_}(hp:p∈ks)(hq:q∈ks):decide (Jc ks p<Jc ks q)=Kq p q:=by
 cases h:Kq p q with
 |true=>exact HN (qS hp h)
 |false=>
  refine GZ λz=>?_;by_cases e:p=q
  .subst e;omega
  .have:=qS hq (a2c e h);omega
end
section
open Classical
variable{h:Heap}
def Hl.inj{a b c d:Int}(x:Hl h v a b)(y:Hl h v c d):X_=(c,d):=by
 obtain⟨p,o,n,t,u,rfl,B,_,Y⟩:=x;obtain⟨p',o',n',t',u',e,j9,_,nv⟩:=y;cases e;rw[B]at j9;cases j9;rw[Y]at nv;injection nv with h3 _
 have:=congrArg Array.toList h3;simp at this;rw[this.1.1,this.2.1]
def Li(h:Heap)(v:xL!):Int×Int:=if x:∃a b,Hl h v a b then(x.choose,x.choose_spec.choose)else(0,0)
def pR{a b:Int}(x:Hl h v a b):Li h v=X_:=by have z:∃a b,Hl h v a b:=⟨a,b,x⟩;unfold Li;rw[dif_pos z];exact z.choose_spec.choose_spec.inj x
def sH{kf:D->Int×Int}{ay:k7!}{og a0:cm!}(ha:hF!=ay.map b!)(hk:∀q∈ay,Hl h q.1.1 (kf q.2).1 (kf q.2).2)(nd:(p1!).Nodup)(hp:og.Perm a0)
  (hu:Up Az_ og a0.size):∃L':List (Keyed×D),L'.Perm ay/\og.toList=L'.map b!/\L'.map z_=Jb kf p1_:=by
 have br:og.toList.Perm hF!:=Array.perm_iff_toList_perm.mp hp;obtain⟨L',B,Y⟩:=b7y br ha;refine⟨L',B,Y.symm,oP ?_ (iZ nd) ((B.map _).trans (cK _).symm)⟩;have fq:((L'.map z_).map kf).Nodup:=(((B.map _).map _).nodup_iff).mpr nd;unfold On;rw[NX];intro i j hi hj UF;have dw:i<fH_:=by simpa using hi
 have qc:j<fH_:=by simpa using hj
 have hsz:og.size=fH_:=by rw[<-IR,<-Y,GX]
 have bi:a0.size=fH_:=by rw[<-IR,ha,GX,B.length_eq]
 have UG:∀k (cr:k<fH_),rk Az_ og k=Jc p1! (kf L'[k].2):=λk cr=>by
  unfold rk;have e:og[k]?=some L'[k].1:=by
   rw[<-KR,<-Y,HY,HE cr];rfl
  rw[e];show Jc _ (Li h L'[k].1.1)=_;rw[pR (hk L'[k] AA!)]
 have jl:=hu i j (LL UF) a!;rw[UG i dw,UG j qc]at jl;simp only[List.getElem_map];have mem:∀k (cr:k<fH_),kf L'[k].2∈(p1_).map kf:=λk cr=>GP (GP AA!);have ne:kf L'[i].2≠kf L'[j].2:=λe=>by
  have q:=(List.getElem_inj (i:=i) (j:=j) (h₀:=by simpa using dw) (h₁:=by simpa using qc) fq).mp cP_;omega
 cases am:Kq (kf L'[i].2) (kf L'[j].2)with
 |true=>rfl
 |false=>
  have:=qS (mem j qc) (a2c ne am);omega
end
def b0z(a v:xL!):argsOk "list.sort" AA_:=by unfold argsOk;kernel_rfl
def a4j(a v:xL!):argsOk "sorted" AA_:=by unfold argsOk;kernel_rfl
section
variable{X:Cx}{J:List (Addr×Obj)}{Z:St}{G H:Hp}{s:zS!}{A:xz!}{E:Value->Shared->Prop}
def c2k{k:Nat}{sp:Sp}{Q:VK}(F:Fk X.prog X.w X.K X.mg X.base Pk k f fd ps sp)(hr:gn_)(O:jH_)(e0:Qz X.prog X.w X.K X.mg X.base A X.stack s H)
  (I:d!)(r:ex_)(h:sp vs H Q E0):wpAny e_ A (call ae_ us) aJ! E s:=by
 have hl:(us++[]).length=S!:=by rw[HP,<-r.length];exact F.len _ _ _ _ h
 have cg:=O s us I.kIn hl;rw[HP]at cg;refine wpAny_call (QB (F.run A X.stack s H c6_ us vs Q E0 hr e0 cg r h) λr s' hq=>?_);cases r with
 |error e=>exact hq.elim
 |ok fl=>
  cases fl with
  |ret u=>exact I.after hq
  |next=>exact False.elim hq
  |brk=>exact False.elim hq
  |cont=>exact False.elim hq
def Mc:D->Option hH!
 |.tup [.int a,.int b]=>some X_
 |_=>none
def a5t{a b:Int}(I:d!)(sub:K!)(r:bR!)(e:Mc d=some X_):Hl s.heap u a b:=by
 unfold Mc at e;show"!6"
 .cases e;obtain⟨v,r,ru⟩:=r;show"!Y";cases ru;show"!4";cases aX r1;cases aX r2;show"#2";obtain⟨x,y,rfl,⟨t,rfl⟩,⟨u,rfl⟩⟩:=b1c rv;exact⟨p,o,n,t,u,rfl,B,Y,h3⟩
 .cases e
def Nb(g:W_):List D->Option (List hH!)
 |[]=>some []
 |d::r=>(g [d]).bind λx=>(Mc x).bind λk=>(Nb g r).map (k::·)
def d0l{oc':Obj}{h':Heap}{t':Nat}(I:Inv X (J++[eq_,(c,oc)]) Z H s)(hc:Iw X J H c)(ir:a≠c)(kp:∀b o,b≠c->s.heap.get? b=some o->h'.get? b=some o)(ho:h'.get? c=some oc')(hd:∀v,oc'.data≠.cell v):
  Inv X (J++[eq_,(c,oc')]) Z H {s with heap:=h',toks:=t'}:=by
 have pa:=I.pin eq_ (GV _ c_);have I1:Inv X p3_ Z H s:=I.pins_of λp hp=>I.pin p (GV _ (by
  obtain z|z:=GT.mp hp
  .exact HJ _ z
  .exact GV _ (by simp at z;simp[z])))
 have kj:∀b∈[c],Iw X p3_ H b:=λb O=>by
  have e:b=c:=by simpa using O
  subst e;obtain⟨f0,f1,f2,f3,f4,f5⟩:=hc;refine⟨f0,f1,f2,f3,f4,co_⟩;obtain z|z:=GT.mp hp
  .exact f5 p h0!
  .obtain z|z:=GT.mp z
   .exact f5 p (GV _ z)
   .have:p=eq_:=by simpa using z
    rw[this];exact ir
 have I2:Inv X p3_ Z H {s with heap:=h',toks:=t'}:=gS I1 kj λb o O e=>kp b o f6_ e;refine I2.pins_of λp hp=>?_;obtain z|z:=GT.mp hp
 .exact I2.pin p (GV _ h0!)
 .obtain z|z:=GJ.mp z
  .subst z;exact I2.pin _ fI_
  .have:p=(c,oc'):=by simpa using z
   subst this;exact⟨ho,hc.1,hc.2.1,hc.2.2.1,hd⟩
def zP{k:Nat}{ps:j_}{g:W_}{body:Value->PUnit->Sem zk_}{Q:zj!}(F:AC_)(hr:p4!)(O:jH_)(li:S!=1)(ir:a≠c)
  (ph:∀x (R:ForInStep PUnit->Shared->Prop) s,wpAny e_ X.A.in1.in1 (call ae_ [x]) (λk s'=>wpAny e_ X.A.in1.in1 (Builtin.List.listUpdate (.ref c) (·.push k)) (λ_ s2=>R (.yield ⟨⟩) s2) E s') E s->wpAny e_ X.A.in1.in1 (body x ⟨⟩) R E s):
  ∀{ds:b_} {us:h_} {kd:b_} {ku:h_} {n:Nat} {ks:fG!} {s:zS!} {G H:Hp},Inv X (J++[eq_,AD!]) Z H s->Bg G H->Paired cP! ds us->Paired cP! kd ku->Nb g ds=some ks->
   (∀H':Hp,H' c=none->Iw X J H' c)->p4_+f_<=1000->
   (∀s' H' G' qe tu n',Inv X (J++[eq_,(c,seqObj "list" (ku++qe).toArray n')]) Z H' s'->Ce G H G' H'->Paired (Cu X.K G') (kd++tu) (ku++qe)->Paired p5! tu ks->Q ⟨⟩ s')->
   wpAny e_ X.A.in1.in1 (forIn us ⟨⟩ body) Q E s
 |_,_,kd,ku,n,ks,s,G,H,I,sub,.nil,pk,e,st,hl,hq=>by
  rw[NY];cases e;refine GH (hq s H G [] [] n ?_ aO_ ?_ .nil)
  .rw[HP];exact I
  .rw[HP,HP];exact pk
 |d::ds,u::us,kd,ku,n,ks,s,G,H,I,sub,.cons r t,pk,e,st,hl,hq=>by
  show"!p";obtain⟨v,rv,ru⟩:=r;rw[LQ];simp only[GS]at hl;refine GF (ph u _ s (cZ (c2k (vs:=[v]) (Q:=λv' H'=>∃G',Ce G H G' H'/\Ar X.K G' x v') F hr O I.env0.in1.in1 I nf_ ⟨li.symm,G,[d],x,sub,Am.cons rv Am.nil,e1,λv' G' H' x' r'=>⟨G',x',r'⟩⟩) λkv s1 ⟨v1,H1,I1,YU,G1,x1,r1⟩=>?_));have pc:=I1.pin AD! fI_;refine NO pc.1 rfl ?_ lb! (by simp only[Array.size_push,GQ];rw[IN];omega);have e4:=PB pc.1 (·.push kv);have I2:=d0l (oc':=seqObj "list" (ku++[kv]).toArray (if(ku.toArray.push kv).size==ku.toArray.size then n else n+1)) (t':=s1.toks) I1 (st H1 pc.2.1) ir (λb o O e=>(uj!).trans e) (by rw[e4,List.push_toArray]) vk!;refine zP F hr O li ir ph I2 x1.sub (Paired.mapP t λ_ _ z=>z.mono x1.g) (iU (Paired.mapP pk λ_ _ z=>z.mono x1.g) (.cons ⟨v1,r1,YU⟩ .nil)) e3 st kN_ λs' H' G' qe tu n' I' x' p' k'=>?_;refine hq s' H' G' (kv::qe) (x::tu) n' ?_ (x1.trans x') ?_ (.cons e2 k')
  .rw[IY]at I';exact I'
  .rw[IY,IY]at p';exact p'
end
def Ik(g:W_)(d:D):Int×Int:=((g [d]).bind Mc).getD (0,0)
def wO{g:W_}:∀{ds:b_} {ks:fG!},Nb g ds=some ks->ks=ds.map er_
 |[],_,e=>by cases e;rfl
 |d::r,ks,e=>by
  show"!p";rw[GM,<-wO e3];congr 1;unfold Ik;rw[e1];show q=(Mc x).getD _;rw[e2];rfl
section
variable{X:Cx}{J:List (Addr×Obj)}{Z:St}{G H:Hp}{s:zS!}{A:xz!}{E:Value->Shared->Prop}
def vY{P:Value->D->Prop}{R:D->Value->Prop}:∀{ku us:h_} {ds:b_},Paired P ku ds->Paired R ds us->∀q∈(hJ!).zip ds,P q.1.1 q.2/\R q.2 q.1.2
 |_,_,_,.nil,.nil,q,h=>by simp at h
 |_,_,_,.cons p t,.cons r u,q,h=>by
  rw[NT,NT]at h;obtain rfl|h:=GJ.mp h
  .exact⟨p,r⟩
  .exact vY t u q h
def iT{α β γ:Type}{R:cQ_}{f:γ->α}{h:γ->β}:∀{l:List γ},(∀q∈l,R (f q) (h q))->Paired R hJ_ (l.map h)
 |[],_=>.nil
 |q::r,hh=>.cons (hh q (GO ..)) (iT λz hz=>hh z k3_)
def fV{α β:Type}{R:cQ_}:∀{l:J!} {m:dA_},Paired R l m->O!=m.length
 |_,_,.nil=>rfl
 |_,_,.cons _ t=>by rw[GS,GS,fV t]
def sJ{G:Hp}{kf:D->Int×Int}(hp:∀d u a b,Cu X.K G d u->Mc d=some X_->Hl h u a b):∀{kd:b_} {ku:h_} {ds:b_},Paired cP! kd ku->Paired p5! kd (ds.map kf)->Paired (λv d=>Hl h v (kf d).1 (kf d).2) ku ds
 |_,_,[],.nil,_=>.nil
 |_,_,_::_,.nil,h=>by cases h
 |_,_,[],.cons _ _,h=>by cases h
 |_,_,_::_,.cons r t,.cons k u=>.cons (hp _ _ _ _ r k) (sJ hp t u)
def d0e{st:SortSt}{us':h_}{ku:h_}{e e1:Nat}{P:lb_}(yz:(C!).map z_=oq!)(hz:us'.length<64)(TX:p4_<64)(hf:failedOf st=none)(ir:a≠c)
  (gb:p8!)(kj:AI_)(I:AK!)
  (hP:∀s' n',Inv X J Z H s'->s'.heap.get? a=some hK!->P hK_ s'):wpAny e_ A AK_ P E s:=by
 have pa:=I.pin lc! fI_;have pc:=I.pin AJ! fI_;unfold ksk_tail;show"#<";rw[yz];refine GF (NO pc.1 rfl ?_ lb! cI_);refine GF (PF ?_);have ea:(s.heap.update c AM!).get? a=some p9_:=(JA _ _ (GN ir)).trans pa.1;refine GF (seqEpoch_at ea rfl ?_);show"#$";refine GF (NO ea rfl ?_ cI_ lb!);rw[hf];simp only[QI,HL,IB];have I1:Inv X J Z H s:=I.unpinned;refine GH (hP _ _ (gS (wr:=[a,c]) (t':=s.toks) I1 lA_ λb o O q=>?_) (PB ea λ_=>oq!))
 .obtain rfl|O:=GJ.mp O
  .exact gb H pa.2.1
  .rw[ld!];exact kj H pc.2.1
 .have B:b≠a:=λz=>O (by rw[z];exact GO ..);have Y:b≠c:=λz=>O (by rw[z];exact GI _ (GO ..));exact(JA _ _ (GN B)).trans ((JA _ _ (GN Y)).trans q)
def d2t{g:W_}{ds:b_}{us ku:h_}{e e1:Nat}{P:lb_}(nz:f_<64)(nd:(ds.map er_).Nodup)(ir:a≠c)
  (gb:p8!)(kj:AI_)(I:AK!)(sub:K!)
  (pu:qb!)(pk:Paired cP! kd ku)(kk:Paired p5! kd (ds.map er_))
  (hP:∀s' us' n',Inv X J Z H s'->Paired cP! qb_ us'->s'.heap.get? a=some hK!->P hK_ s'):wpAny e_ A (ksk_end a false us.toArray e1 (.ref c) ku.toArray) P E s:=by
 have z:=sJ (X:=X) (h:=s.heap) (λd u a b r q=>a5t I sub r q) pk kk;have l1:ap_=f_:=(fV pu).symm;have l2:p4_=f_:=fV z;have mem:=vY z pu;have jp:(ld_).toList=(hL!).map b!:=by
  rw[ksk_zip,AO_]
 have hd:(hL!).map z_=ds:=List.map_snd_zip qc!;have fin:∀{L':k7!} {st:SortSt},L'.Perm hL!->(C!).toList=L'.map b!->L'.map z_=Jb er_ ds->failedOf st=none->wpAny e_ A AK_ P E s:=λ{L' st} B Y h3 h4=>by
  refine d0e (us':=L'.map (·.1.2)) ?_ (by rw[GX,B.length_eq,JG,JG];omega) a! h4 ir gb kj I λs' n' I' e'=>hP s' _ n' I' ?_ e'
  .apply AP!;rw[Array.toList_map,Y,II];rfl
  .rw[<-h3];exact iT λq hq=>(mem q (B.mem_iff.mp hq)).2
 unfold ksk_end;show"#<";show"#$";by_cases Y:jY_<2
 .rw[GU Y,GU Y];refine GF ab_;rw[StateT.run_pure];refine GF ab_;show"#<";refine fin (L':=(hJ!).zip ds) (NA _) jp ?_ rfl;rw[hd];rw[GQ,l1]at Y
  match ds,Y with
  |[],_=>rfl
  |[x],_=>rfl
  |_::_::r,Y=>simp at Y;omega
 .rw[GL Y,GL Y];rw[GQ]at Y;refine GF (a6w (vs:=ku) AP_ (λz=>by rw[z]at l2;simp at l2;omega) ?_)
  .show"!f"
  .have hsz:(ld_).size=f_:=by rw[<-IR,jp,GX,JG,JG];omega
   have hk:∀q∈(hJ!).zip ds,Hl s.heap q.1.1 (qc_).1 (qc_).2:=λq hq=>(mem q hq).1;have fq:(hL_).Nodup:=by rw[hd];exact nd
   refine GF (JJ (b6w (kd:=Xi true) (a0:=ku.toArray.zip cC_) (r:=λp=>Jc hL_ AQ!) (Q:=λ_ h1=>(A_).Perm ld_/\failedOf h1=none/\Up (λp=>Jc hL_ AQ!) A_ (ld_).size)
    (AQ_) AR! AR_ AS! λh1 a1 a2 a3=>AS_) ?_ λ_ _ e=>e)
   .rw[jp]at L hy;obtain⟨p,hp,rfl⟩:=HB.mp L;obtain⟨q,a8,rfl⟩:=HB.mp hy;refine wP le_ lf! ?_;have mm:∀p∈(hJ!).zip ds,Ik g p.2∈((hL!).map z_).map er_:=λp hp=>GP (GP hp);have hh:decide AT_=Kq (Ik g p.2) qc_:=by
     show"#?"
    have oi:Q (decide AT_) s:=hq;rw[hh]at oi;exact oi
   .show"!D";exact fin b1 b2 AU! a2
def d0c{k:Nat}{ps:j_}{g:W_}(F:AC_)(hr:p4!)(O:jH_)(li:S!=1)
  {us:h_}{ds:b_}{n:Nat}{ks:fG!}{P:lb_}(I:d!)(sub:K!)(pu:qb!)(ha:AU_)(iu:hS_)
  (gb:p8!)(ek:Nb g ds=some ks)(nd:hi_)(nz:f_<64)
  (hP:∀s' H' G' us' n',Inv X J Z H' s'->Ce G H G' H'->Paired (Cu X.K G') qb_ us'->H' a=none->s'.heap.get? a=some hK!->P hK_ s'):
  wpAny e_ X.A.in1.in1 (ksk_tree a ae_ false) P E s:=by
 have l1:ap_=f_:=(fV pu).symm;have YV:=wO ek;obtain⟨e1,tz⟩:∃e1,(s.heap.update a (Obj.mapSeq λ_=>(#[]:Array Value))).get? a=some (seqObj "list" #[] e1):=AV!;unfold ksk_tree;refine GF AV_;refine GF AW!;refine GF AW_;refine GF AX!;refine GF (QS ?_ cI_);refine IJ ?_;have hsz:(cn_).objs.size=o_+1:=by rw[size_push',Heap.size_update]
 show wpAny _ _ (ksk_rest a ae_ false us.toArray e1 (.ref (cn_).objs.size)) P E {s with heap:=(cn_).push co!};have jz:(qd_).get? (cn_).objs.size=some co!:=HG _ rfl;rw[hsz]at jz ⊢;have ir:a≠o_+1:=IA (Nat.lt_succ_of_lt (HI ha));have kj:∀H':Hp,H' ab!=none->Iw X J H' ab!:=λH' q=>I.fpOk (OH _) q;have md:(qd_).get? a=some p9_:=GK _ (GK _ tz);have I1:Inv X J Z H {s with heap:=(cn_).push co!}:=
  gS (wr:=[a]) (t':=s.toks) I (λb O=>by rw[ld!];exact gb H iu) λb o O q=>GK _ AZ_
 have fa:=gb H iu;have fc:=kj H tk_;have I2:Inv X (J++[lc!,(o_+1,seqObj "list" (vj!).toArray 0)]) Z H {s with heap:=(cn_).push co!}:=I1.pins_of λp hp=>by
  obtain z|z:=GT.mp hp
  .exact I1.pin p (GV _ z)
  .obtain rfl|z:=GJ.mp z
   .exact⟨md,iu,fa.2.1,fa.2.2.1,js!⟩
   .rw[bW_];exact⟨jz,fc.1,fc.2.1,fc.2.2.1,js!⟩
 generalize o_+1=c at *;unfold ksk_rest;refine GF ha!
 first
  |rw[List.forIn_toArray]
  |(rw[<-Array.forIn_toList];simp only[List.toList_toArray])
  |rw[<-Array.forIn_toList]
 refine GF (JJ (zP (E:=vl!) (Q:=λ_ s'=>wpAny e_ X.A.in1.in1 _ P E s') F hr O li ir (λx R s' L=>?_) I2 sub pu .nil ek kj (by rw[KF];omega) λs' H' G' qe tu n' I' x' p' k'=>?_) Ar_ λ_ _ z=>z.elim)
 .refine GF (NV (JJ L (λkv s2 hk=>?_) λ_ _ z=>z.elim));show"#<";exact GF (JJ hk (λ_ s3 z=>GH z) λ_ _ z=>z)
 .rw[JF]at I';rw[JF,JF]at p';have pc:=I'.pin (c,seqObj "list" qe.toArray n') fI_;have pa:=I'.pin lc! fI_;refine GF (PP pc.1 rfl ?_);rw[YV]at k' nd;exact d2t nz nd ir gb kj I' x'.sub (Paired.mapP pu λ_ _ z=>z.mono x'.g) p' k' λs3 us' n3 I3 p3 e3=>hP s3 H' G' us' n3 I3 x' p3 pa.2.1 e3
def Ze(g:W_)(ds:b_):Option aF_:=(Nb g ds).bind λks=>if hi_/\f_<64 then some qb_ else none
def Uo(g:W_)(fa:d_):Ad->Option D:=λρ=>(d5!).bind λd=>match d with
 |.lst ds=>(Ze g ds).map D.lst
 |_=>none
def kW{K:zT!}:∀{ds:b_} {vs:k!} {us:h_},Am K G ds vs->Ba vs us->Paired fK! ds us
 |[],vs,us,r,p=>by cases cU r;cases p;exact .nil
 |d::ds,vs,us,r,p=>by
  obtain⟨v,t,rfl,r1,r2⟩:=bQ r;cases p with
  |cons a b=>exact .cons ⟨v,r1,a⟩ (kW r2 b)
def kY{K:zT!}:∀{ds:b_} {us:h_},Paired fK! ds us->∃vs,Am K G ds vs/\Ba vs us
 |_,_,.nil=>⟨[],Am.nil,.nil⟩
 |_,_,.cons ⟨v,r,p⟩ t=>let⟨vs,r2,p2⟩:=kY t;⟨v::vs,Am.cons r r2,.cons p p2⟩
def b1h{us':h_}{n':Nat}{s0:zS!}{H0:Hp}{ds:b_}{Q:VK}(I0:Inv X J Z H0 s0)(I:d!)(sub:K!)(hs:zY!<=a)(pu:Paired cP! ds us')(hz:f_<=sizeLine)(ho:s.heap.get? a=some hK!)(hn:hS_)
  (hQ:∀v G' H',Ce G H G' H'->Ar X.K G' cD_ v->Q v H'):EP X J Z Q aa_ s:=by
 obtain⟨vs,r,p⟩:=kY pu;have f:=I0.fpOk hs hn;refine⟨dP!,upd H a dh_,I.track ho p (by rw[<-aI r];exact hz) hn ?_ f.2.1 f.2.2.2.2.1 f.2.2.2.2.2,rfl,hQ _ _ _ (Ce.laid sub hn) ?_⟩
 .exact HR I0.sz hs
 .exact Ar.lst (Et.of bP) (r.mono (λb u e=>by rw[aV (λz=>by rw[z]at e;rw[sub _ _ e]at hn;cases hn)];exact e))
def a0e:bootBuiltins "sorted"=some lg_:=by decide+kernel
def a0o{us:h_}{Q:p!}(hl:s.heap.IsList l cC_)(hz:ap_<64)
  (h:wpAny e_ X.A.in1.in1 (ksk_tree ab! ae_ false) (λfin s'=>∃v,fin=.done (.ret v)/\Q (.ref ab!) s') E {s with heap:=(lh!).push lh_}):
  wpAny e_ X.A (call lg_ [.ref l] [(Str.ofString "key",.ref f)]) Q E s:=by
 refine call_function_entry_kw kind_sorted plain_sorted entry_sorted (a4j _ _) ?_;unfold Builtin.«sorted»;refine GF (m:=A1_) ab_;refine GF (collect_list hl ?_ A2!);refine GF (QS ?_ A2!);have hsz:(lh!).objs.size=o_+1:=by
  rw[Heap.size_update,size_push']
 have la:((lh!).push lh_).get? ab!=some lh_:=by
  rw[<-hsz];exact HG _ rfl
 show wpAny _ _ _ _ _ {s with heap:=(lh!).push lh_};rw[hsz];refine GF (IJ (wpAny_call_entry_kw slot_list_sort A2_ entry_list_sort ?body (b0z _ _)))
 case body=>
  rw[ksk_t1];refine JJ h (λfin s' hq=>?_) λ_ _ z=>z;obtain⟨v,rfl,hq⟩:=hq;exact⟨v,rfl,GH ⟨_,rfl,hq⟩⟩
variable{own:List Nat}{fa:Ad->Option D}{e:Expr}{pos p p2 kp:Pos}{x:Str}
def c0w{k:Nat}{ps:j_}{g:W_}(F:wV_)(hr:p4!)(YW:R!)(y8:Gl X "sorted")(YX:X.mg "sorted"=none)(ha:DE X own e fa)(li:S!=1:=by rfl)(be:F!:=by decide)
  (he:jR!:=by rfl):
  DE X own (.Call (.Name "sorted" p) [e] [⟨some "key",cF!,kp⟩] pos) (Uo g fa):=⟨by
 obtain⟨σ,fd,B,Y,h3,h4⟩:=F;intro J s Z H Q I ⟨G,ρ,d,er,e1,kq⟩;obtain⟨d0,e2,e1⟩:=GG.mp e1;cases d0 with
 |lst ds=>
  obtain⟨rq,e3,rfl⟩:=GR.mp e1;obtain⟨ks,e4,e5⟩:=GG.mp e3;have p6:hi_/\f_<64:=by
   by_cases z:hi_/\f_<64
   .exact z
   .rw[GL z]at e5;cases e5
  rw[GU p6]at e5;cases e5;have da:=(aD ha aK he).ok;refine KY (iV I y8 YX a0e ?_ c! c!);refine callWith_kw (cZ (da pos J s Z H _ I ⟨G,ρ,[.lst ds],er,by unfold Ac Ag;rw[e2];rfl,λvs G1 H1 x1 r1=>(⟨G1,x1,r1⟩:∃G1,Ce G H G1 H1/\Am X.K G1 [.lst ds] vs)⟩) λus s1 ⟨vs,H1,I1,r,G1,x1,r1⟩=>?_) A3_ A3_ rfl rfl;refine kws_cons (jX I1 YW h3 (kws_nil ?_) be);obtain⟨v,t,rfl,rv,rr⟩:=bQ r1;cases cU rr;obtain⟨l,xs,rfl,sq,rx⟩:=bJ rv;obtain⟨its,hv,pl,hz⟩:=I1.list (x1.sub.seq sq);cases r with
  |cons ra rb=>
   cases rb;cases ra;show wpAny e_ X.A (call lg_ [.ref l] [(Str.ofString "key",.ref σ)]) _ _ s1;have lz:eY!=f_:=by rw[<-hv.length,<-aI rx]
   obtain⟨nn,sl,ho⟩:=nO pl;refine a0o (us:=its) ⟨_,ho,rfl,nn,rfl⟩ (by rw[lz];exact p6.2) ?_;have keep:∀b o,s1.heap.get? b=some o->(qG_).get? b=some o:=λb o q=>by
    have am:b<y!:=HI q;exact GK _ ((Heap.get?_update_ne _ _ _ _ (IA am)).trans ((Heap.get?_push_ne _ _ _ (IA am)).trans q))
   have hsz:(qf!).objs.size=y!+1:=by
    rw[Heap.size_update,size_push']
   have la:(qG_).get? (y!+1)=some qf_:=by
    rw[<-hsz];exact HG _ rfl
   have I2:=I1.kept (t':=s1.toks) keep;have b6:y!<=y!+1:=OH _;refine d0c B hr Y li I2 x1.sub (kW rx hv) la (I1.hok.fresh b6) (λH' q=>I1.fpOk b6 q) e4 p6.1 p6.2 λs3 H3 G3 us3 n3 I3 x3 p3 YY y9=>oB!;exact b1h I1 I3 x3.sub b6 p3 qg! y9 YY λv G4 H4 x4 r4=>kq v G4 H4 (x1.trans (x3.trans x4)) r4
 |_=>cases e1⟩
end
def c2d{es:Z!}{ep:Nat}(hd:zP!):W.KdlSrc P w "dict" d d es.length pJ! (λh=>Oo h d es ep) where
 type:=λ_ hm=>hm.typeIs
 there:=λ_ hm=>let⟨_,ho,_⟩:=hm;⟨HI ho,HI ho⟩
 keep:=λ_ _ hm hk=>hm.at λo e=>hk d aA! o e
 notList:=by decide
 notTuple:=by decide
 hint:=λ_ _ _ _ hm hq=>W.kdl_hint_dict hm.typeIs hq
 iter:=λ_ _ hh hm=>⟨_,_,(λ_ _ hq=>b9x hd hm hq),b3u hh _ d (let⟨_,ho,_⟩:=hm;IA hU!) es ep,⟨dK!,hm.at λo e=>GK _ e⟩⟩
section
variable{X:Cx}{J:List (Addr×Obj)}{Z:St}{G H:Hp}{s:zS!}{A:xz!}{E:Value->Shared->Prop}
def c8b{K:zT!}{kvs:g!}{es:Z!}{acc:aa!}(ok:ft_)(hi:qh_):Paired fK! ft! lm_:=by
 have ea:lm_=es.map kn!:=by
  apply QK;intro i;rw[HY];by_cases h:i<ae!
  .have B:i<acc.size:=by rw[hi.1];exact h
   show"!g"
  .rw[qi_,IS a!];rfl
 rw[ea];have:∀{kvs:g!} {es:Z!},Paired qj! kvs es->Paired fK! ft! fM_:=λ{kvs es} h=>by
  induction h with
  |nil=>exact .nil
  |cons a _ ih=>exact .cons a ih
 exact this qj_
def Nf(d:D):Int×Int:=(Mc d).getD (0,0)
def Wg(ds:b_):Option aF_:=if ln!=true/\(ln_).Nodup/\f_<64 then some lo! else none
def d0b{us:h_}{ds:b_}{n:Nat}{P:lb_}(I:d!)(sub:K!)(pu:qb!)(ha:AU_)(iu:hS_)
  (gb:Iw X J H a)(ek:ln!=true)(nd:(ln_).Nodup)(nz:f_<64)
  (hP:∀s' us' n',Inv X J Z H s'->Paired cP! lo! us'->s'.heap.get? a=some hK!->P hK_ s'):
  wpAny e_ A (Builtin.«list.sort» nl!) P E s:=by
 have l1:ap_=f_:=(fV pu).symm;obtain⟨e1,tz⟩:∃e1,(s.heap.update a (Obj.mapSeq λ_=>(#[]:Array Value))).get? a=some (seqObj "list" #[] e1):=AV!;rw[list_sort_plain];refine GF AV_;refine GF AW!;refine GF AW_;refine GF AX!;refine GF (QS ?_ cI_);refine IJ ?_;show wpAny _ _ _ P E {s with heap:=(cn_).push co!};have I1:Inv X J Z H {s with heap:=(cn_).push co!}:=
  gS (wr:=[a]) (t':=s.toks) I qk! λb o O q=>GK _ AZ_
 have md:(qd_).get? a=some p9_:=GK _ (GK _ tz);generalize (cn_).push co!=h3 at I1 md ⊢;have pk:∀d∈ds,Mc d=some (Nf d):=λd hd=>by
  have:=JR.mp ek d hd;unfold Nf;cases q:Mc d with
  |none=>rw[q]at this;cases this
  |some z=>rfl
 have z:Paired qk_ us ds:=by
  have gen:∀{ds:b_} {us:h_},Paired cP! ds us->(∀d∈ds,Mc d=some (Nf d))->Paired qk_ us ds:=λ{ds us} h=>by
   induction h with
   |nil=>exact λ_=>.nil
   |cons r _ ih=>exact λhk=>.cons (a5t I1 sub r (hk _ (GO ..))) (ih λd hd=>hk d (GI _ hd))
  exact gen pu pk
 have mem:=vY z pu;have jp:(fO!).toList=(et!).map b!:=by
  rw[ksk_zip,AO_]
 have hd:(et!).map z_=ds:=List.map_snd_zip qc!;have fin:∀{L':k7!} {st:SortSt},L'.Perm et!->(C!).toList=L'.map b!->L'.map z_=Jb Nf ds->failedOf st=none->
   P hK_ {s with heap:=h3.update a (Obj.mapSeq λ_=>(C!).map z_)}:=λ{L' st} b1 b2 b3 b4=>by
  have yz:(C!).map z_=(ql_).toArray:=by
   apply AP!;rw[Array.toList_map,b2,II];rfl
  rw[yz];refine hP _ _ _ (gS (s:={s with heap:=h3}) (wr:=[a]) (t':=s.toks) I1 qk! λb o O q=>(AZ!).trans q) ?_ (PB md λ_=>(ql_).toArray);rw[<-b3];exact iT λq hq=>(mem q (b1.mem_iff.mp hq)).2
 have UH:∀{L':k7!} {st:SortSt},L'.Perm et!->(C!).toList=L'.map b!->((C!).map z_).size<=sizeLine+1:=λ{L' st} b1 b2=>by
  rw[Array.size_map,<-IR,b2,GX,b1.length_eq,JG,JG,IN];omega
 by_cases Y:jY_<2
 .rw[GU Y,GU Y];refine GF ab_;show"#<";rw[StateT.run_pure];refine GF ab_;show"#<";refine GF qm!;refine GF (NO md rfl ?_ cI_ (UH (L':=(fO_).zip ds) (NA _) jp));simp only[failedOf,QI,HL,IB];refine GH (fin (L':=(fO_).zip ds) (st:=SortSt.mk' general' fO! #[] 7 none) (NA _) jp ?_ rfl);rw[hd];rw[GQ,l1]at Y
  match ds,Y with
  |[],_=>rfl
  |[x],_=>rfl
  |_::_::r,Y=>simp at Y;omega
 .rw[GL Y,GL Y];rw[GQ]at Y;refine GF (a6w (vs:=us) AP_ (λz=>by rw[z]at Y;simp at Y) ?_)
  .show"!f"
  .have hsz:(fO!).size=f_:=by rw[<-IR,jp,GX,JG,JG];omega
   have hk:∀q∈(fO_).zip ds,Hl h3 q.1.1 (Nf q.2).1 (Nf q.2).2:=λq hq=>(mem q hq).1;have fq:(fQ!).Nodup:=by rw[hd];exact nd
   refine GF (JJ (b6w (kd:=Xi true) (a0:=us.toArray.zip cC_) (r:=λp=>Jc fQ! (Li h3 p.1)) (Q:=λ_ h1=>(A_).Perm fO!/\failedOf h1=none/\Up (λp=>Jc fQ! (Li h3 p.1)) A_ (fO!).size)
    (AQ_) AR! AR_ AS! λh1 a1 a2 a3=>AS_) ?_ λ_ _ e=>e)
   .rw[jp]at L hy;obtain⟨p,hp,rfl⟩:=HB.mp L;obtain⟨q,a8,rfl⟩:=HB.mp hy;refine wP le_ lf! ?_;have mm:∀p∈(fO_).zip ds,Nf p.2∈((et!).map z_).map Nf:=λp hp=>GP (GP hp);have hh:decide qo!=Kq (Nf p.2) (Nf q.2):=by
     show"#?"
    have oi:Q (decide qo!) {s with heap:=h3}:=hq;rw[hh]at oi;exact oi
   .show"!D";refine GF qm!;refine GF (NO md rfl ?_ cI_ (UH b1 b2));rw[a2];simp only[QI,HL,IB];exact GH (fin b1 b2 AU! a2)
def a6y{es:Z!}{acc:aa!}(hi:qh_):lm_=es.map kn!:=by
 apply QK;intro i;rw[HY];by_cases h:i<ae!
 .have B:i<acc.size:=by rw[hi.1];exact h
  show"!g"
 .rw[qi_,IS a!];rfl
def EF(M:Mh):List D->Option D
 |[d]=>(Ek M d).map λq=>.lst kX!
 |_=>none
def b5h{K:zT!}{kvs:g!}{es:Z!}(ok:ft_):∃ys,Am K G ft! ys/\Ba ys fM_:=by
 have:∀{kvs:g!} {es:Z!},Paired qj! kvs es->Paired fK! ft! fM_:=λ{kvs es} h=>by
  induction h with
  |nil=>exact .nil
  |cons a _ ih=>exact .cons a ih
 exact kY (this qj_)
def Wi(K:zT!):List V->Hp->VK->Prop:=λxs H Q=>∃G ds,Bg G H/\(∃d es ep,xs=[.ref d]/\H d=some eo_/\Paired fK! ds fM_)/\ln!=true/\(ln_).Nodup/\f_<64/\∀v G' H',Ce G H G' H'->Ar K G' (.lst lo!) v->Q v H'
def yN(hc:bu!):Iq X lg_ (Wi X.K):=by
 intro J s Z H xs us Q I r ⟨G,ds,sub,⟨d,es,ep,e1,e2,hv⟩,q1,q2,q3,k⟩;subst e1;cases r with
 |cons ra rb=>
  cases rb;cases ra;obtain⟨⟨h3,h4,h5⟩,_⟩:=(show Fj X.prog X.w H s.heap d eo_ from I.hok d _ e2);have lz:ae!=f_:=by rw[fV hv,GX]
  refine Calls.call_function_entry kind_sorted plain_sorted entry_sorted (args_sorted1 _) ?_;unfold Builtin.«sorted»;refine GF (m:=A1_) ab_;refine GF (W.kdu_collect (c2d h4) bu_ h3 ht! λh' tk acc hk hi=>?_);have ia:=a6y hi;refine GF (QS ?_ (by rw[ia,GX,IN];omega));rw[ia];have I1:=I.kept (t':=tk) hk;have la:(h'.push hP_).get? h'.objs.size=some hP_:=HG _ rfl;have I2:Inv X J Z H {s with heap:=h'.push hP_,toks:=tk}:=I1.kept (t':=tk) λb u q=>GK _ q;have hn:H h'.objs.size=none:=I1.hok.fresh y_;refine GF (IJ (IE slot_list_sort A2_ entry_list_sort ?body (args_list_sort _)))
  case body=>
   refine d0b (s:={s with heap:=h'.push hP_,toks:=tk}) I2 sub hv la hn (I1.fpOk y_ hn) q1 q2 q3 λs3 us3 n3 I3 p3 y9=>⟨_,rfl,GH oB!⟩;exact b1h I1 I3 sub y_ p3 qg! y9 hn k
def Qh(M:Mh):List D->Option D
 |[d]=>(Ek M d).bind λq=>(Wg kX!).map D.lst
 |_=>none
def c1d{K:zT!}:Ru P w K (Wi K) Qh:=by
 show"#!";unfold Qh at e;show"!6"
 .obtain⟨q,e1,e⟩:=GG.mp e;obtain⟨l,e2,rfl⟩:=GR.mp e;unfold Wg at e2;split at e2
  .rename_i hz;cases e2;obtain⟨v,rfl,r1⟩:=eL r;obtain⟨rfl,rfl,hM⟩:=cY r1 e1;obtain⟨es,B,Y⟩:=(m.cell q.1 _ hM).2;obtain⟨ys,g1,g2⟩:=b5h Y;exact⟨G,_,sub,⟨q.1,es,q.2.2,rfl,B,kW g1 g2⟩,hz.1,hz.2.1,hz.2.2,k⟩
  .cases e2
 .cases e
end
def Te(M:Mh):D->D
 |.fn a=>match M a with|some (.lst xs)=>.lst xs|_=>.fn a
 |d=>d
def BE(M:Mh)(x y:D):Option D:=Eb (Te M x) (Te M y)
def tY{P:xR!}{w:xM!}{K:zT!}{M:Mh}{G H:Hp}(sub:K!)(m:bR_)(r:cb_):Ar K H (Te M d) v:=by
 cases d<;>first|exact r.mono sub|skip
 rename_i a;simp only[Te];split
 .rename_i xs hM;show"!{";cases fA r;exact Ar.lst (Et.of B) (Y.mono sub)
 .exact r.mono sub
def c7j{P:xR!}{w:xM!}{K:zT!}:Wy P w K (Zg K) BE:=by
 show"!@";unfold BE Eb at e;show"!6"
 .show"!M";exact qs!
 .cases e
def Dd(K:zT!)(C:xh!)(m qual:Str)(st:Stmt)(ps:j_):Prop:=∃σ fd,Wz K m qual st σ fd/\Ez K fd ps []/\Vw K C m σ
def Uc(K:zT!)(mg:B_)(x:Str)(C:xh!)(qual:Str)(st:Stmt)(ps:j_):Prop:=mg x=some au!/\∃σ fd,Wz K "__init__" qual st σ fd/\Ez K fd ps []/\Mk K C σ
section
variable{P:xR!}{w:xM!}{K:zT!}{mg:Str->Option Value}{base h:Heap}{x qual:Str}{st:Stmt}{N ps:List Str}{k:Nat}{h2:List Nat}{q:WS}{C:xh!}
def cJ(d:xP_)(S:dV_)
  (O:∀{σ:xh!} {ae:xL!} {A:xz!} {outer:aq_} {s:zS!} {H:Hp} {E:XK},Ak k oN_->Uf (oO!).nox [] h2 bL_ q):
  Mu P w K mg base P_ x ps kW!:=by
 obtain⟨σ,fd,F,hb,m⟩:=d;exact⟨σ,fd,lr!,hb,m,F.kp⟩
def cF(c:Ud K C)(d:Dd K C x qual st ps)(S:dV_)
  (O:qs_):
  Dy P w K mg base P_ C x ps kW!:=by
 obtain⟨σ,fd,F,hb,m⟩:=d;exact⟨c,σ,fd,m,lr!,hb⟩
def a1s(d:Uc K mg x C qual st ps)(S:dV_)
  (O:qs_):
  Vv P w K mg base P_ x C ps kW!:=by
 obtain⟨m,σ,fd,F,hb,mk⟩:=d;exact⟨m,σ,fd,mk,lr!,hb⟩
def dO{od an:a4_}{dt:b6!}{kV:xL!}
  (a:W.findIn K au! x=some eM!)(i:mB_)(l:u2_)
  (c:iV!)(k:gC!)
  (b:u2!):Dd K C x qual st ps:=
 ⟨f,_,kh!,oP_,⟨a,i,k⟩⟩
def b9b{od an:a4_}{dt:b6!}{kV:xL!}(m:mg x=some au!)
  (a:sM!)(i:mB_)(l:K.lookup f=some ⟨oc,od,.func qt!,dt⟩)
  (c:iV!)(k:gC!)(mm:sM_)(kc:W.keepIn K au!=true)
  (b:∀(kV bo pm:xL!) (an:a4_) (ae ct:xL!) (us:h_),ap_=S!->bindArgs qt! c6_=pure c5_):Uc K mg x C qual st ps:=
 ⟨m,f,_,kh!,oP_,⟨mm,a,i,kc⟩⟩
def c3t(hd:Zw K mg x st [y])(S:Aj N [y] bz_)(gb:mg x=some e1_)
  (O:∀(base:Heap) (σ:xh!) (ae:xL!) (A:xz!) (outer:aq_) (s:zS!) (H:Hp) (E:XK),Ak k oN_->Uf (oO!).nox [] h2 bL_ q):
  ∃fd:FuncData,(∀(s:zS!) (u:xL!),BindsTo s fd jh! [(y,u)])/\∀base:Heap,K.In base->base.Ns mainGlobals mg->Fk P w K mg base Pk P_ fa fd [y] (Xc P w K 1 (Cn N 1 q)):=by
 obtain⟨f,fd,F,hb,m⟩:=hd;rw[gb]at m;cases m;exact⟨fd,λs u=>.of_eq (hb [u] rfl),λbase _ _=>uJ F S λae A outer s H E hr=>O base _ ae A outer s H E hr⟩
def mY{α:Type}{p:fS!}(h:∀a,p [a]):∀us:List α,ap_=1->p us
 |[a],_=>h a
def oN{α:Type}{p:fS!}(h:∀a b,p af!):∀us:List α,ap_=2->p us
 |[a,b],_=>h a b
def us3{α:Type}{p:fS!}(h:∀a b c,p cR_):∀us:List α,ap_=3->p us
 |[a,b,c],_=>h a b c
def us4{α:Type}{p:fS!}(h:∀a b c d,p [a,b,c,d]):∀us:List α,ap_=4->p us
 |[a,b,c,d],_=>h a b c d
def us5{α:Type}{p:fS!}(h:∀a b c d e,p [a,b,c,d,e]):∀us:List α,ap_=5->p us
 |[a,b,c,d,e],_=>h a b c d e
def M0:Mh:=λ_=>none
def c3s{g:WF}{H:Hp}{ns:D!}(hS:Et K H a b6_)(hg:g lt_ M0 λd _=>d=.bl true):Xc P w K 1 g bf_ H jh_ λ_ _ _=>False:=
 ⟨rfl,H,lt_,M0,_,Bg.refl H,⟨λa c e=>by cases e⟩,Am.cons (Ar.lst hS (zT ns)) Am.nil,hg,λd M' v G' H' r _ _ q=>by subst r;exact cX q⟩
end
end DL
namespace L2
open PySem PySem.Spec PyProof.Rows
def c2p{X:Cx}{i:Nat}{tg:Expr}{scope:Scope}{pos:Pos}{NL:j_}{ix:j!}{wi:TI}{g:TG}{tt:TT}{te:TE}
  (hN:br!)(dw:ah_)(L:br_)
  (ce:dd!)(b8:dd_)(j4:∀y∈b8!,y.2=.local->scope.names.lookup y.1=some .local)
  (g9:gH_)(cap:dc_)(calm:bu!)(az:md_)
  (hg:gI!)(hi:vo_)(he:vp!)
  (hs:c2_:=by intro _;rfl)
  (j7:swapsWith hS! (some ig!) pos.line X.env=pure true:=by rfl)
  (hf:X.fn x=true\/X.env.scope.names.lookup x=some .local:=by first|exact .inl rfl|exact .inr rfl|assumption):
  PS X (.Assign [.Name x ic] hS! pos) (Zd vp_ eB_):=by
 intro J s Z H D I h;show"!U"
 rw[exec_Assign_Name_used x ic _ pos j7];refine GF (PD gj_);unfold evalThenUse;refine GF (wpAny_comprehension_free (use:=some _) rfl hs bq.eq ce j4 vq!);obtain⟨it,fp,tn,ac,H2,e,I2,T,bj,f2,hw⟩:=Y;subst e;refine a0b (RR:=λacc C=>compPost e_ X.A X.xe (some _) _ acc C) ce b8 bq cap calm (hg cl) (hi cl) (he cl) I2 T bj f2 hw λD' C us n ys H' s' I' eD rv ak nD hD hC jh nC ⟨m,hn⟩ fin=>?_;have ff:∀b,b<N!->b≠C/\b≠D':=λb O=>vr!;have pp:∀x c,X.env.cells.lookup x=some c->c<N!:=λx c h=>let⟨_,_,ho,_⟩:=I2.cell x c h;HI ho;have rg:∀p∈X.pn++J,p.1<N!:=λp hp=>HI (I2.pin p hp).1;have ID:=I'.track (D:=D') (us:=us) (n:=n) eD rv ak nD (HR I2.sz hD) (GN (gI_).2) vt_ λp hp=>(jt!).2;show wpAny e_ X.A (assign ig! X.env (.ref D')) _ _ s';refine GF (m:=standAt ic) (PD ?_);refine wpAny_bindName (yS ID hN dw L (v:=.ref D') rfl (λs3 I3 ⟨a,sb,ha⟩=>?_) hf);have YZ:a≠C:=by
  obtain rfl|ha:=ha
  .exact(gI_).1
  .exact(ff _ (pp _ _ ha)).1
 refine⟨m,hn.sameBut sb (GN YZ),λh' bu=>?_⟩;have Y0:upd H' D' a6! C=none:=by rw[aV (GN jh)];exact nC
 have IC:Inv X J (Z.set i (some (.ref D'))) (upd H' D' a6!) {s3 with heap:=h',toks:=s3.toks}:=I3.turned (it:=C) vr_ Y0 (GN (gI_).1) vs! vt! λp hp=>(jt!).1;exact GH (GH ⟨_,_,IC,fin D' nD⟩)
end L2
namespace DL
open PySem PySem.Spec PyProof.Rows L2
section
variable{X:Cx}{own:List Nat}{tg:Expr}{fi:WI}{ft:WT}
def mN{i:Nat}{scope:Scope}{pos p2:Pos}{NL:j_}{ix:j!}{g:TG}{bnd:ad_}{fe:WE}
  (hN:br!)(dw:ah_)(L:br_)
  (ce:dd!)(b8:dd_)(j4:∀y∈b8!,y.2=.local->scope.names.lookup y.1=some .local)
  (g9:gH_)(cap:dc_)(m9:jz_)(calm:bu!)(az:pD_)
  (hg:gI!)(ng:of_)(hi:zH_)(he:zI!)
  (bp:bl!:=by decide)(hs:c2_:=by intro _;rfl)
  (j7:swapsWith hS! (some dk!) pos.line X.env=pure true:=by rfl)
  (hf:X.fn x=true\/X.env.scope.names.lookup x=some .local:=by first|exact .inl rfl|exact .inr rfl|assumption):
  MS X own own (.Assign [cF!] hS! pos) (An i zI_):=
 pA (c2p hN dw L ce b8 j4 g9 cap calm az.ok hg hi wm! hs j7 hf) λM0 G0 F0 E Z G H ρ M R sr e k1 k2=>⟨G,ρ,M,_,sr.st,e,λds ck M1 ac G1 H1 r1 x1 m1 fh=>by
  obtain⟨O,r1⟩:=r1;have ig:=sr.st.grow x1 m1;refine b3m O fh ng zJ! r1 λji ys M' G' H' r x m q _ p hp=>?_;exact k1 _ M' _ _ _ r ((((zv!).grow x m).grow (.ext gY_) (m.ext gY_)).set bp (dQ og_ q))⟩
end
end DL
namespace DL
open PySem PySem.Spec PyProof.Rows L2
section
variable{X:Cx}{own:List Nat}{e a b o tg:Expr}{pos p2 p ag ab:Pos}{f fa fb fo:WE}
def Su(fo:WE):WE:=λρ M R=>fo ρ M λd M1=>Dw po_ λq=>Dw (q.2[kK! - 1]?) λy=>R y (Ay M1 q.1 (.lst q.2.dropLast))
def xS{K:zT!}{G:Hp}{ds:b_}{vs:k!}(r:gZ_):Am K G ds.dropLast vs.dropLast:=by rw[List.dropLast_eq_take,List.dropLast_eq_take,aI r];exact mE _ r
def c3m(ho:ck_)(df:attributeBase o "pop" X.env cZ_=eval o X.env:=by rfl)(dh:cx_:=by rfl):ME X own (.Call zc_ [] [] ab) (Su fo):=
 eC (c6z LD PySem.F.slot_list_pop PySem.F.type_list_pop c7r ho.ok df dh) λZ G H Q ρ M R st e k=>
  ⟨G,ρ,M,_,st,e,λd M1 v G1 H1 r1 x1 m1 q1=>by
   obtain⟨⟨p,xs⟩,e1,r2⟩:=cG r1;obtain⟨y,e2,r3⟩:=cG r2;obtain⟨rfl,rfl,hM,vs,hH,hr⟩:=qE m1 q1 e1;obtain⟨u,hu,ru⟩:=eW hr e2;refine⟨.inl ⟨rfl,vs,Et.of hH⟩,p,vs,u,rfl,rfl,hH,by rw[<-aI hr];exact hu,?_⟩;exact k _ _ _ _ _ r3 (x1.trans (.write m1 x1.sub hM) m1) (m1.write hM ⟨_,bP,xS hr⟩) ru⟩
nonrec def lstM(M:Mh)(d:D):Option aF_:=match d with
 |.lst xs=>some xs
 |.fn p=>(match M p with|some (.lst xs)=>some xs|_=>none)
 |_=>none
def b2t{K:zT!}{M:Mh}{G H:Hp}(sub:K!)(m:bR_)(r:cb_)(e:lstM M d=some xs):∃p vs,v=.ref p/\Et K H p vs/\Am K G xs vs:=by
 cases d<;>first|(cases e;done)|skip
 .cases e;obtain⟨p,vs,rfl,q,rr⟩:=bJ r;exact⟨p,vs,rfl,jK_,rr⟩
 .show"#B";simp only[lstM]at e;show"!6"
  .rename_i xs hM;cases e;obtain⟨_,vs,B,Y⟩:=m.cell p _ hM;exact⟨p,vs,rfl,kG!,Y⟩
  .cases e
def Sw(fa fb:WE):WE:=λρ M R=>fa ρ M λx M1=>fb ρ M1 λy M2=>Dw (lstM M2 x) λxs=>Dw (lstM M2 y) λys=>i_+M_<=big/\∀p,M2 p=none->R x! (Ay M2 p n3_)
def c3o(ha:Z_)(O:ci_):ME X own (.BinOp a .Add b pos) (Sw fa fb):=
 eC (b2a b2j ha.ok O.ok) λZ G H Q ρ M R st e k=>⟨G,ρ,M,_,st,e,λx M1 v G1 H1 r1 x1 m1 q1=>⟨G1,ρ,M1,_,st.grow x1 m1,r1,λy M2 u G2 H2 r2 x2 m2 q2=>by
  obtain⟨xs,e1,r2⟩:=cG r2;obtain⟨ys,e2,hl,r2⟩:=cG r2;obtain⟨p1,yr,rfl,s1,UI⟩:=b2t x2.sub m2 bS_ e1;obtain⟨p2,yh,rfl,s2,UJ⟩:=b2t x2.sub m2 q2 e2;refine⟨p1,p2,yr,yh,rfl,rfl,s1,s2,by rw[<-aI UI,<-aI UJ];exact cP hl,co_⟩;exact k _ _ _ _ _ (r2 p (m2.nocell hp)) ((ci!).trans (.laid x2.sub hp) m2) (m2.laid hp x2.sub ⟨_,bP,cS UI UJ⟩) Ar.fn⟩⟩
def Zr(M:Mh)(x y:D):Option D:=Bc (Te M x) (Te M y)
def c7k{K:zT!}:Wy P w K (Zj K) Zr:=by
 show"!@";unfold Zr Bc at e;show"!6"
 .show"!M";exact qs!
 .cases e
def Sh:D->D->Option D
 |.str z,.int i=>if 0<=i/\i<=100/\dT!<=100 then some (.str (Txt.mul z i))else none
 |_,_=>none
def b2l{K:zT!}:Ic K Yo Sh:=by
 show"!0";unfold Sh at e;show"!6"
 .show"!6"
  .rename_i h;cases e;cases bT rx;cases aX ry;exact⟨_,_,rfl,rfl,a6e h,gV_⟩
  .cases e
 .cases e
def CB(fa:WE)(ol oh:jJ_):WE:=λρ M R=>fa ρ M λx M1=>Dw (ol ρ) λl=>Dw (oh ρ) λh=>match x with|.lst xs=>R (.lst (Da xs l h)) M1|_=>False
def b9d{lo hi:mY!}{ol oh:jJ_}(ha:Z_)(hl:v9_)(hh:wa!):ME X own wa_ (CB fa ol oh):=
 eC wb_ λZ G H Q ρ M R st e k=>⟨G,ρ,M,_,st,e,λx M1 v G1 H1 r1 x1 m1 q1=>by
  obtain⟨l,e2,r1⟩:=cG r1;obtain⟨h,e3,r1⟩:=cG r1;have ig:=st.grow x1 m1;refine⟨G1,ρ,l,ig.or,e2,λG2 H2 s2=>⟨G2,ρ,h,ig.or.grow s2,e3,wc!⟩⟩;have s4:=s2.trans s3;cases x<;>first|exact r1.elim|skip
  obtain⟨p,vs,rfl,q,rr⟩:=bJ ((q1.mono s2.g).mono s3.g);exact .inr ⟨p,vs,rfl,s4.sub.seq q,λp hp=>k _ _ _ _ _ r1 (x1.trans (.ext qC!) m1) (m1.ext qC!) (dQ (s4.sub.free hp) n7_)⟩⟩
end
def EN(K:zT!)(l:xh!)(n:Nat):It:=
 ⟨λi H=>i<n/\∃xs,Et K H l xs/\i_=n,λi H x H'=>H'=H/\∀xs,Et K H l xs->xs[n - 1 - i]?=some x,λi _=>i=n⟩
def b6i{K:zT!}{tg:Expr}(l it:xh!)(n:Nat):Qx P w K tg (EN K l n) [it] it (λi h=>h.IsRevIter it l ((n:Int) - 1 - (i:Int))) where
 mem:=by simp
 obj:=λi h st b O=>by
  have e:b=it:=by simpa using O
  subst e;show"!T"
 keep:=λi h h' st k=>st.at λo e=>k it c_ o e
 item:=by
  intro X hP hw hK hc i J s Z H E I hf st hg;subst hP hw hK;obtain⟨hi,xs,hq,hn⟩:=hg;obtain⟨its,rv,p,hz⟩:=I.list hq;have L:xs[n - 1 - i]?=some (xs[n - 1 - i]' a!):=HE a!;obtain⟨u,hu,ru⟩:=rv.get L;obtain⟨f0,f1,f2,f3,f4,f5⟩:=hf it c_;have e1:(n:Int) - 1 - (i:Int)=qE!:=by omega
  have ig:=st;rw[e1]at ig;refine wpAny_pyNext_rev_item ig p.isList (x:=u) ij_ λh' h1 sb=>?_;have e2:qE! - 1=(n:Int) - 1 - qG!:=by omega
  rw[e2]at h1;show"!A";exact⟨u,rfl,b3b (s:=ik!) e c d c! ⟨_,H,I1,ru,⟨rfl,l4_⟩,h1,il_⟩⟩
 done:=by
  intro X hP hw hK hc i J s Z H E I hf st hg;subst hP hw hK;obtain⟨f0,f1,f2,f3,f4,f5⟩:=hf it c_;have hg:i=n:=hg;have e1:(n:Int) - 1 - (i:Int)=-1:=by omega
  rw[e1]at st;exact wpAny_pyNext_rev_end bu_ st λh' eb=>in!
 self:=λ_ _ _ _ _ st h=>wpAny_pyIter_revIter st h
section
variable{X:Cx}{own:List Nat}{e a b o tg:Expr}{fm:List Expr}{n1:Nat}{pos p2 p tp ag ab:Pos}{f fa fb fo:WE}
def Uw(f:WE):WI:=λρ M T=>f ρ M λd M1=>match d with
 |.lst xs=>T xs.reverse I_ M1
 |_=>False
def c7v(hg:Gl X "reversed")(hm:X.mg "reversed"=none)(h:Z_)(hs:pL!:=by rfl)(av:pL_:=by rfl):
  MI X own tg (.Call (.Name "reversed" p) [a] [] pos) (Uw fa):=⟨by
 show"!h";refine Call_ (iV I hg hm boot_reversed (JB (cZ (dC h.ok fB hs pos J s Z H (λvs H1=>∃v xs M1 G1,vs=[v]/\T xs.reverse I_ M1/\XM M G H M1 G1 H1/\MR X.prog X.w X.K M1 G1 H1/\Ar X.K G1 J_ v) I qH!) λus s1 ⟨vs,H1,I1,r1,v,xs,M1,G1,q1,t1,x1,m1,rr⟩=>?_) hs av))
 .cases d<;>first|exact r1.elim|skip
  exact qI_
 subst q1;obtain⟨l,ys,rfl,q,rl⟩:=bJ rr;obtain⟨u,rfl,ru⟩:=kS r1;cases ru;have hq:Et X.K H1 l ys:=x1.sub.seq q;obtain⟨its,rv,pl,hz⟩:=I1.list hq;refine call_reversed_list pl.isList ?_;have e1:((a5_:Nat):Int) - 1=((M_:Nat):Int) - 1 - c2!:=by
  have:=dJ!;rw[GQ];omega
 rw[e1];have az:(s1.heap.push qJ_).IsRevIter s1.heap.objs.size l qJ!:=dK!;refine wpAny_pyIter_revIter (s:={s1 with heap:=s1.heap.push qJ_}) az ?_;refine⟨y!,[y!],_,_,H1,rfl,io!,b6i l _ M_,az,be!,qK_⟩
 .have e:b=y!:=by simpa using O
  show"!P"
 .intro i M' G' H' g1 g2 m' _;have hl:=aI rl;have q':Et X.K H' l ys:=g2.seq (g1.seq q);refine⟨cG!,λhi=>by rw[NM]at hi;show i=M_;omega⟩;have hi:i<i_:=by have:=(HC.mp hd).1;rwa[NM]at this
  rw[List.getElem?_reverse hi]at hd;obtain⟨v,gv,zc⟩:=eW rl hd;refine⟨⟨r!,ys,q',rfl⟩,ea!⟩;obtain⟨rfl,hy⟩:=hy;have:=hy ys q';rw[<-hl]at this;rw[gv]at this;cases this;exact⟨G',Ce.refl g2,zc.mono g1⟩⟩
end
def EQ(K:zT!)(l:xh!):It:=
 ⟨λi H=>∃xs x,Et K H l xs/\xs[i]?=some x,λi H v H'=>∃T x,v=.ref T/\H T=none/\(∀xs,Et K H l xs->xs[i]?=some x)/\H'=upd H T (.tup [bc_,x]),λi H=>∃xs,Et K H l xs/\i_<=i⟩
def a8o{K:zT!}{fm:bs_}{n1:Nat}{tp:Pos}{e:xh!}(kg:e≠it):
  Qx P w K do_ (EQ K l) [e,it] e (λi h=>zZ!/\h.IsListIter it l i) where
 mem:=by simp
 obj:=λi h st b O=>by
  simp only[GJ,HS,JO]at O;obtain⟨⟨ah,s1⟩,o,s2,_,s3⟩:=st;obtain rfl|rfl:=O
  .exact zZ_
  .exact⟨o,s2,λv z=>by rw[s3]at z;cases z⟩
 keep:=λi h h' st k=>by
  obtain⟨⟨ah,s1⟩,s2⟩:=st;exact⟨⟨ah,k e c_ _ s1⟩,s2.at λo q=>k it c_ o q⟩
 item:=by
  intro X hP hw hK hc i J s Z H E I hf st hg;subst hP hw hK;obtain⟨xs,x,hq,L⟩:=hg;obtain⟨its,rv,p,hz⟩:=I.list hq;obtain⟨u,hu,ru⟩:=rv.get L;obtain⟨⟨ah,s1⟩,s2⟩:=st;refine wpAny_pyNext_enum_item s1 s2 p.isList (x:=u) ij_ kg λh' ho h1 hT hsz kp=>⟨_,rfl,wpAny_letOwnedTupleGo_enum ho λY pv bi=>?_⟩;have UK:o_≠e:=λz=>KO _ (z▸HI s1);have yb:o_≠it:=λz=>by
   obtain⟨o,q,_⟩:=s2;exact KO _ (z▸HI q)
  have I1:Inv X J Z H {s with heap:=Y,toks:=s.toks+1}:=gS I hf λc o hc eo=>by
   show"#D";exact(bi.2 c hc.1).trans (kp c o hc.1 hc.2 eo)
  have eT:Y.IsTuple s.heap.objs.size #[.int i s.toks,u]:=⟨_,(bi.2 _ UK).trans hT,rfl,_,rfl⟩;have I2:=b6k (us:=[.int i s.toks,u]) (xs:=[bc_,x]) I I1 y_ eT (.cons H_ nf_) z1_;have Y1:IsEnum Y e it qG! u:=by simpa using pv
  refine⟨c8_,_,I2,rfl,⟨_,x,rfl,I.hok.fresh y_,l4_,rfl⟩,⟨⟨_,Y1⟩,h1.at λo q=>(bi.2 it (GN kg)).trans q⟩,be!⟩;rw[aV (λz:b=o_=>by
   simp only[GJ,HS,JO]at O;obtain rfl|rfl:=O
   .exact UK z.symm
   .exact yb z.symm)]
  exact(im_).1
 done:=by
  show"!q";obtain⟨⟨ah,s1⟩,s2⟩:=st;have hl:=dJ!;exact wpAny_pyNext_enum_end bu_ s1 s2 p.isList bd_ λh' eb=>⟨rfl,gS (t':=s.toks) I hf λc o hc eo=>eb c o hX! eo⟩
 self:=λA i s Q E st h=>by
  obtain⟨⟨ah,s1⟩,_⟩:=st;exact OQ s1 h
section
variable{X:Cx}{own:List Nat}{e a b o tg:Expr}{fm:List Expr}{n1:Nat}{pos p2 p tp ag ab:Pos}{f fa fb fo:WE}
def Sr(f:WE):WI:=λρ M T=>f ρ M λd M1=>match d with
 |.lst xs=>T qN! I_ M1
 |_=>False
def c7w(hg:z2_)(hm:z3!)(h:Z_)(hs:pL!:=by rfl)(av:pL_:=by rfl):
  MI X own do_ z3_ (Sr fa):=⟨by
 show"!h";refine Call_ (iV I hg hm boot_enumerate (JB (cZ (dC h.ok fB hs pos J s Z H (λvs H1=>∃v xs M1 G1,vs=[v]/\T qN! I_ M1/\XM M G H M1 G1 H1/\MR X.prog X.w X.K M1 G1 H1/\Ar X.K G1 J_ v) I qH!) λus s1 ⟨vs,H1,I1,r1,v,xs,M1,G1,q1,t1,x1,m1,rr⟩=>?_) hs av))
 .cases d<;>first|exact r1.elim|skip
  exact qI_
 subst q1;obtain⟨l,ys,rfl,q,rl⟩:=bJ rr;obtain⟨u,rfl,ru⟩:=kS r1;cases ru;obtain⟨its,rv,pl,hz⟩:=I1.list (x1.sub.seq q);refine call_enumerate_list pl.isList λh' he az hsz hk=>?_;refine OQ he ?_;have jl:∀b∈[y!+1,y!],y!<=b:=λb O=>by
  simp only[GJ,HS,JO]at O;obtain rfl|rfl:=O<;>omega
 refine⟨_,_,_,_,H1,rfl,I1.kept (t':=s1.toks) hk,a8o z5!,⟨⟨_,he⟩,az⟩,z6!,qK_⟩;intro i M' G' H' g1 g2 m' _;have hl:=aI rl;have q':Et X.K H' l ys:=g2.seq (g1.seq q);refine⟨cG!,λhi=>⟨ys,q',by rw[GX,ML]at hi;omega⟩⟩;rw[HY,PJ]at hd;obtain⟨q2,oi,rfl⟩:=GR.mp hd;obtain⟨c,hc,rfl⟩:=GR.mp oi;obtain⟨v,gv,zc⟩:=eW rl hc;refine⟨⟨ys,v,q',gv⟩,ea!⟩;obtain⟨T',x',rfl,hT,l8,rfl⟩:=hy;have:=l8 ys q';rw[gv]at this;cases this;refine⟨_,Ce.laid g2 hT,eK (g2.free hT) (Am.cons ?_ (Am.cons (zc.mono g1) Am.nil))⟩;rw[OV];exact Ar.int⟩
end
def Tu(s1 s2 s3:Str)(fa fb:d_):Ad->Option D:=λρ=>(d5!).bind λx=>(gP_).bind λy=>match x,y with
 |.int i,.int j=>if gh!<1920/\j.natAbs.log2<1920/\(qP!).length<=big then some (.str qP!)else none
 |_,_=>none
section
variable{X:Cx}{own:List Nat}{a b:Expr}{pos q1 q2 q3 q4 q5:Pos}{s1 s2 s3:Str}{j1 j2 j3:Nat}{fa fb:Ad->Option D}
def b3d{J:l_}{Z:St}{G H:Hp}{ρ:Ad}{i:Int}{Q:p!}(h:Q_)(I:d!)(er:vJ!)(e:fa ρ=some bb_)(hi:gh!<1920)
  (hQ:∀G' H' s' t,Ce G H G' H'->Inv X J Z H' s'->Q (.str gh_ t) s'):wpAny e_ X.A (eval (.FormattedValue a (-1) none pos) X.env) Q X.xe s:=by
 refine FormattedValue_plain (cZ (h.ok J s Z H (λv H'=>v=.int i/\∃G',Ce G H G' H') I ⟨G,ρ,_,er,e,λv G' H' x r=>⟨aX r,G',x⟩⟩) ?_);rintro u s' ⟨x,H',I',r,rfl,G',xx⟩;show"#%";exact formatField_int_small hi (hQ G' H' _ _ xx ((I'.tok _).tok _))
def c4v(ha:Q_)(O:cd_):DE X own (.JoinedStr [.Constant (.str s1) j1 q1,.FormattedValue a (-1) none q2,.Constant (.str s2) j2 q3,.FormattedValue b (-1) none q4,.Constant (.str s3) j3 q5] pos) (Tu s1 s2 s3 fa fb):=⟨λJ s Z H Q I ⟨G,ρ,d,er,e,k⟩=>by
 obtain⟨x,e1,e⟩:=GG.mp e;obtain⟨y,e2,e⟩:=GG.mp e;cases x<;>first|(cases e;done)|skip
 cases y<;>first|(cases e;done)|skip
 rename_i i j;simp only at e;show"!6"
 .rename_i h;cases e;obtain⟨B,Y,h3⟩:=h;have h4:=HR h3 jS!;simp only[NW]at h4;refine JoinedStr_many (PV (OM ⟨by rw[Str.empty_append];omega,?_⟩));rw[Str.empty_append];refine PV (b3d ha iJ! er e1 B λG1 H1 s' t x1 I1=>h0_);refine PV (OM h0_);refine PV (b3d O (I1.tok _) og! e2 Y λG2 H2 s' t x2 I2=>h0_);refine PV (OM h0_);refine joinParts_nil ?_ (by simp only[NW];omega);exact⟨.str _,H2,(I2.tok _).tok _,H_,k _ G2 H2 (x1.trans x2) Ar.str⟩
 .cases e⟩
def b5d{bh:j!}{rest:bG_}:Uf X own bh rest ji!:=zu!
end
end DL
namespace K26
open PySem L2 DL
nonrec def top(i:Nat):Stmt:=PySem.Challenge.pw_manyhands_k26_lines_of_it.main.body.getD i qR_
def Jd(i j:Nat):Stmt:=match top i with
 |.ClassDef _ _ _ b _ _ _ _ _ _ _=>b.getD j qR_
 |s=>s
structure Aw where
 mk::
 A0:Addr
 A5:Addr
 A6:Addr
 A7:Addr
 A8:Addr
 A9:Addr
 B0:Addr
 B1:Addr
 B2:Addr
 B3:Addr
 B4:Addr
 B5:Addr
abbrev Os:Stmt:=top 12
def a4z:Aj p_ p_ (Ae Os):=g_
abbrev Ou:Stmt:=top 13
def a5b:Aj fU! fU! (Ae Ou):=g_
abbrev Ku:Stmt:=top 14
def vA:Aj p_ p_ (Ae Ku):=g_
abbrev Px:Stmt:=top 15
def a8x:Aj p_ p_ (Ae Px):=g_
abbrev Kb:Stmt:=top 16
def tK:Aj p_ p_ (Ae Kb):=g_
abbrev Py:Stmt:=top 17
def a8y:Aj p_ p_ (Ae Py):=g_
abbrev Mm:Stmt:=top 18
def xQ:Aj p_ p_ (Ae Mm):=g_
abbrev Nl:Stmt:=top 19
def a0y:Aj p_ p_ (Ae Nl):=g_
abbrev Pv:Stmt:=top 20
def a8v:Aj dC_ dC_ (Ae Pv):=g_
abbrev Mx:Stmt:=top 21
def a8u:Aj p_ p_ (Ae Mx):=g_
abbrev Ot:Stmt:=top 22
def a5a:Aj p_ p_ (Ae Ot):=g_
abbrev Jt:Stmt:=top 24
def a0z:Aj fV! fV! (Ae Jt):=g_
abbrev Pz:Stmt:=top 25
def a8z:Aj p_ p_ (Ae Pz):=g_
abbrev Kc:Stmt:=top 26
def tL:Aj p_ p_ (Ae Kc):=g_
abbrev Jh:Stmt:=top 27
def qP:Aj bG! bG! (Ae Jh):=g_
abbrev Ov:Stmt:=top 28
def a5c:Aj aY_ aY_ (Ae Ov):=g_
abbrev Rn:Stmt:=Jd 30 0
def b4h:Aj aQ_ aQ_ (Ae Rn):=g_
abbrev Nn:Stmt:=Jd 30 1
def a1a:Aj U! U! (Ae Nn):=g_
abbrev Ix:Stmt:=Jd 30 2
def fL:Aj qV! lD_ (Ae Ix):=g_
abbrev Kd:Stmt:=Jd 30 3
def gL:Aj qV_ U! (Ae Kd):=g_
abbrev Mn:Stmt:=Jd 30 4
def fX:Aj qW_ aQ_ (Ae Mn):=g_
abbrev Mo:Stmt:=Jd 31 0
def xR:Aj aQ_ aQ_ (Ae Mo):=g_
abbrev Kx:Stmt:=Jd 31 1
def vB:Aj U! U! (Ae Kx):=g_
abbrev Ht:Stmt:=Jd 31 2
def mU:Aj U! U! (Ae Ht):=g_
abbrev Hd:Stmt:=Jd 31 3
def gA:Aj fW_ fW_ (Ae Hd):=g_
abbrev Kw:Stmt:=Jd 31 4
def kU:Aj qX_ cT_ (Ae Kw):=g_
abbrev Hu:Stmt:=Jd 31 5
def mV:Aj fX! fX! (Ae Hu):=g_
abbrev Ke:Stmt:=Jd 31 6
def tM:Aj cT_ cT_ (Ae Ke):=g_
abbrev Jj:Stmt:=Jd 31 7
def dL:Aj qZ! lE_ (Ae Jj):=g_
abbrev Ky:Stmt:=Jd 31 8
def hV:Aj qZ_ lF! (Ae Ky):=g_
abbrev Gn:Stmt:=Jd 31 9
def kO:Aj fX_ fX_ (Ae Gn):=g_
abbrev Ga:Stmt:=Jd 31 11
def jO:Aj U! U! (Ae Ga):=g_
abbrev Fc:Stmt:=Jd 31 12
def mT:Aj aR! aR! (Ae Fc):=g_
abbrev Fp:Stmt:=Jd 31 13
def nL:Aj aR! aR! (Ae Fp):=g_
abbrev Go:Stmt:=Jd 31 14
def kP:Aj aR! aR! (Ae Go):=g_
abbrev Ie:Stmt:=top 33
def nK:Aj bG! bG! (Ae Ie):=g_
abbrev Ml:Stmt:=top 34
def iR:Aj q0_ aY_ (Ae Ml):=g_
abbrev Rk:Stmt:=top 35
def jA:Aj q1! aY_ (Ae Rk):=g_
abbrev Uz:Stmt:=top 36
def c2i:Aj fY! fY! (Ae Uz):=g_
abbrev Rl:Stmt:=top 37
def jB:Aj q1_ aY_ (Ae Rl):=g_
abbrev Qg:Stmt:=Jd 40 0
def a9a:Aj fY_ fY_ (Ae Qg):=g_
abbrev No:Stmt:=Jd 40 1
def a1d:Aj fZ! fZ! (Ae No):=g_
abbrev Nm:Stmt:=top 41
def jN:Aj vh_ aR_ (Ae Nm):=g_
abbrev Mj:Stmt:=top 42
def xP:Aj aR_ aR_ (Ae Mj):=g_
abbrev Nj:Stmt:=top 43
def a0v:Aj as! as! (Ae Nj):=g_
abbrev Pw:Stmt:=top 44
def a8w:Aj as! as! (Ae Pw):=g_
abbrev Nk:Stmt:=top 45
def a0x:Aj fZ_ fZ_ (Ae Nk):=g_
abbrev Ji:Stmt:=top 46
def dJ:Aj q3_ bH! (Ae Ji):=g_
abbrev Kv:Stmt:=top 47
def fK:Aj q5! lH_ (Ae Kv):=g_
abbrev Gu:Stmt:=top 48
def qQ:Aj bH! bH! (Ae Gu):=g_
abbrev Rm:Stmt:=top 49
def b4g:Aj as! as! (Ae Rm):=g_
abbrev Er:Stmt:=top 50
def dP:Aj q6_ aR_ (Ae Er):=g_
abbrev Pt:Stmt:=top 51
def uY:Aj q8! as! (Ae Pt):=g_
abbrev Uy:Stmt:=top 52
def tW:Aj q7_ bH! (Ae Uy):=g_
abbrev Ka:Stmt:=top 54
def kK:Aj q8_ lI_ (Ae Ka):=g_
abbrev Sx:Stmt:=top 55
def jC:Aj q9! lJ_ (Ae Sx):=g_
abbrev Mw:Stmt:=top 56
def uZ:Aj q9_ lK! (Ae Mw):=g_
abbrev Ps:Stmt:=top 57
def a4y:Aj [ar_,bX!] aR_ (Ae Ps):=g_
abbrev Tc:Stmt:=top 59
def b6u:Aj cW_ cW_ (Ae Tc):=g_
abbrev Va:Stmt:=top 60
def a1b:Aj vz! cW_ (Ae Va):=g_
abbrev Of:Stmt:=top 63
def b4i:Aj aA_ aA_ (Ae Of):=g_
abbrev Rp:Stmt:=top 64
def mD:Aj rb_ aA_ (Ae Rp):=g_
abbrev Qb:Stmt:=top 65
def a5d:Aj vD! nL_ (Ae Qb):=g_
abbrev Ta:Stmt:=top 66
def b6s:Aj f0_ f0_ (Ae Ta):=g_
abbrev Qf:Stmt:=top 67
def eV:Aj rd! lM_ (Ae Qf):=g_
abbrev Ro:Stmt:=top 68
def fJ:Aj rf! lN! (Ae Ro):=g_
abbrev Ow:Stmt:=top 69
def gB:Aj rg! aA_ (Ae Ow):=g_
abbrev Qa:Stmt:=top 70
def nM:Aj rh! aA_ (Ae Qa):=g_
abbrev Qd:Stmt:=top 71
def jD:Aj rh_ cX_ (Ae Qd):=g_
abbrev Qc:Stmt:=top 72
def vD:Aj ri_ lO! (Ae Qc):=g_
abbrev Tb:Stmt:=top 73
def b6t:Aj cX_ cX_ (Ae Tb):=g_
abbrev Qe:Stmt:=top 74
def hW:Aj rj! nW_ (Ae Qe):=g_
abbrev Sz:Stmt:=top 75
def oR:Aj rk! aA_ (Ae Sz):=g_
abbrev Ju:Stmt:=top 76
def a1c:Aj bY_ bY_ (Ae Ju):=g_
abbrev Ig:Stmt:=top 77
def vC:Aj bY_ bY_ (Ae Ig):=g_
abbrev Sy:Stmt:=top 78
def fM:Aj lR! f1_ (Ae Sy):=g_
abbrev Rx:Stmt:=top 79
def a0w:Aj rm! [bH_] (Ae Rx):=g_
def Qk:Ad->Option Fl:= (Bh (Cr (Dj "int" n!) (Cr (Du (Dj "bool" n!)) (f2 Jn (f1 Fy a0!) (f2 Gd (fC (.int 10)) (fC lS_))))))
def Fs:List D->Option D:=Cd p_ 1 (Qk)
def Qm:Ad->Option Fl:= (Bh (Cr (f1 Fs a0!) (Bw Jr Jn C_ n! s_)))
def Gy:List D->Option D:=Cd fU! 2 (Qm)
def Mp:Ad->Option Fl:= (Bh (Cr (f1 Fs a0!) (f2 Nt n! t_)))
def Dx:List D->Option D:=Cd p_ 1 (Mp)
def Og:Ad->Option Fl:= (sSeq (Gb (Ki ia! (fT (f2 Lg dF_ U_))) cY! Cq) (Bh (Cr (f1 Gy (Ac a0_ (Ac f2! Ag))) (f1 Dx (Ac dG! Ag)))))
def Ed:List D->Option D:=Cd p_ 1 (Og)
def Kz:Ad->Option Fl:= (sSeq (Gb (Ki ia! (fT (f2 Lg dF_ at!))) cY! Cq) (Bh (Cr rq_ (f1 Gy (Ac dG_ (Ac f2! Ag))))))
def Ec:List D->Option D:=Cd p_ 1 (Kz)
def Lr:Ad->Option Fl:= (Bh (Ev (f1 Ed a0!) (Ev (f2 Bc n! ib!) (f2 Bc n! ic!))))
def Gx:List D->Option D:=Cd p_ 1 (Lr)
def Jw:Ad->Option Fl:= (Bh (Ev rr! (f1 Ed a0!)))
def Fa:List D->Option D:=Cd p_ 1 (Jw)
def Lb:Ad->Option Fl:= (Bh (Ev rr! (f1 Ec a0!)))
def Fw:List D->Option D:=Cd p_ 1 (Lb)
def Rr:Ad->Option Fl:= (Bh (Cr (Bw Jr Jr f3_ n! (fC (.str "~"))) (f2 Lg (f1 Xw a0!) (fC (.int 37)))))
def Gv:List D->Option D:=Cd dC_ 1 (Rr)
def Rq:Ad->Option Fl:= (sSeq (Gb (Ki (Co (fT lW_)) (Co (fT (Bw Jr Jr t_ dF_ f2!)))) cY! Cq) (Bh (f1 Md (Ac (Ey 1 [] (Zo n!) R_ aJ_ id_) Ag))))
def Jp:List D->Option D:=Cd p_ 1 (Rq)
def Ql:Ad->Option Fl:= (Bh (f1 Gy (Ac n! (Ac cs_ Ag))))
def Io:List D->Option D:=Cd p_ 1 (Ql)
def Ia(t:Aw):List cf_:=[("put",.tup [dH!,.fn t.A5]),("move",.tup [dH!,dH!,.fn t.A5]),("drop",.tup [dH!]),("write",.tup [dH!,.fn t.A6,.fn t.A7]),("cut",.tup rx_),("set",.tup [dH!,.fn t.B0,.fn t.B1]),("undo",.tup [.fn t.B2]),("redo",.tup [.fn t.B2])]
def Ks(t:Aw):Addr->Option wW!:=λa=>if a=t.A0 then some Gx else if a=t.A5 then some Fa else if a=t.A6 then some Fw else if a=t.A7 then some Jp else if a=t.A8 then some Ec else if a=t.A9 then some Dx else if a=t.B0 then some Io else if a=t.B1 then some Fs else if a=t.B2 then some Ed else none
def Ox(t:Aw):Ad->Option Fl:= (sSeq (Gb (fT (f2 Lg dF_ lZ_)) cY! Cq) (Bh (f1 Md (Ac (Ey 2 [] (Zn s_ n!) eC_ aJ_ ie_) Ag))))
def Hi(t:Aw):List D->Option D:=Cd fV! 2 (Ox t)
def Oh(t:Aw):Ad->Option Fl:= (sSeq (Gb (Ki ia! (fT (f2 Bc dF_ C_))) cY! Cq) (sSeq (Gb (Ki (Co (fT (Dj "str" a0_))) (fT (Xx f4_ true a0_))) cY! Cq) (sSeq (Gb (Co (fT (f1 (Hi t) (Ac (Ep n! ig_ Au) (Ac (Vj f4_ a0_) Ag))))) cY! Cq) (Bh (Ev (f2 Lg a0_ (fC dH_)) (f2 Jr (f2 Al (f2 Ai dG_ U_) l0_) f2!))))))
def Ib(t:Aw):List D->Option D:=Cd p_ 1 (Oh t)
def La(t:Aw):Ad->Option Fl:= (sSeq (Gb (Ki ia! (fT (f2 Lg dF_ cs_))) cY! Cq) (Bh (Cr rq_ (Cr (f1 Dx (Ac dG_ Ag)) (f1 (Ib t) (Ac l0_ Ag))))))
def Bv(t:Aw):List D->Option D:=Cd p_ 1 (La t)
def Kf:Ad->Option Fl:= (Bh (Av (Ac dG_ (Ac a0_ Ag))))
def Df:List D->Option D:=Cd bG! 1 (Kf)
def Qn:Ad->Option Fl:= (Bh (Uo Df n!))
def Dh:List D->Option D:=Cd aY_ 1 (Qn)
def Wo(t:Aw):WS:= (Ah (Ea t.B5 "following" i! rD_) (Ea t.B5 "preceding" i! rD_))
def Hj(t:Aw):WF:=Cn aQ_ 1 (Wo t)
def Ld(t:Aw):WS:= (Bf (Mf (wl ih_) (w2 bv! u! c0_)))
def Hk(t:Aw):WF:=Cn U! 2 (Ld t)
def Jl(t:Aw):WS:= (Ah (An 3 (AE (wT (Bb t.B5 "holds" 2 (Hk t) i! c1!)) L_ bZ!)) (Ah (An 4 (w2 Bt c0_ ai_)) (Ah (By c0_ ai_ u!) (Ah (By ii_ u! ai_) (Ah (By c0_ u! aj!) (By ii_ aj! u!))))))
def Cs(t:Aw):WF:=Cn qV! 3 (Jl t)
def Lc(t:Aw):WS:= (Ah (An 2 (Xg ii_ u!)) (Ah (An 3 (Xg c0_ u!)) (Ah (By c0_ L_ ai_) (By ii_ ai_ L_))))
def Ip(t:Aw):WF:=Cn qV_ 2 (Lc t)
def Nq(t:Aw):WS:= (Ah f6! (Ah (An 2 (w2 Bt c0_ bZ!)) (Ah (Fo rK_ rL_) b0!)))
def Hx(t:Aw):WF:=Cn qW_ 1 (Nq t)
def Sf(t:Aw):WS:= (Ah (Ea t.B4 "parents" i! (Oq (Em ik_ bZ! (Em il! bZ! Ng)))) (Ah (Ea t.B4 "rows" i! (Oq (Em ik_ im! (Em il! im! Ng)))) (Ah (Ea t.B4 "texts" i! Fg) (Ah (Ea t.B4 "numbers" i! Fg) (Ah (Ea t.B4 "written" i! Fg) (Ea t.B4 "hidden" i! Fg))))))
def Hy(t:Aw):WF:=Cn aQ_ 1 (Sf t)
def Mr(t:Aw):WS:= (Bf (w2 bv! u! ct!))
def Cw(t:Aw):WF:=Cn U! 2 (Mr t)
def Ii(t:Aw):WS:= (Bf (w2 bv! u! eD_))
def Ct(t:Aw):WF:=Cn U! 2 (Ii t)
def Lz(t:Aw):WS:= (Ah (Fo f7! f7_) (Bf (wl ih_)))
def Fe(t:Aw):WF:=Cn fW_ 3 (Lz t)
def Re(t:Aw):WS:= (Ah rO_ (Ah rP! (Ah rP_ (Ah rQ! (Ah rQ_ rR_)))))
def Je(t:Aw):WF:=Cn qX_ 4 (Re t)
def Ij(t:Aw):WS:= (Bf (Mf ma! (Mf rO! (Wc (Bb t.B4 "is_within" 3 (Fe t) i! ip_)))))
def Ft(t:Aw):WF:=Cn fX! 3 (Ij t)
def Qo(t:Aw):WS:= (Ah (Ax (Ly (wT (Bb t.B4 "can_move" 3 (Ft t) i! (Ab u! c1!)))) Pq Ch) (Ah (Bk (Bb t.B5 "take_out" 2 (Ip t) (w2 Bt ct! l6_) b0_)) (Ah (Bk (Bb t.B5 "put_behind" 3 (Cs t) (w2 Bt ct! L_) l8!)) (By l6! u! L_))))
def Gh(t:Aw):WF:=Cn cT_ 4 (Qo t)
def Kg(t:Aw):WS:= (Ah (Ax (Ly (wT (Bb t.B4 "has_item" 2 (Ct t) i! c1!))) Pq Ch) (Ah (An 5 ai_) (Dk (Kt (Sj O_)) (Vk 6 7) (Ah md! (Ah rX_ (Ah rY_ (An 5 f9_)))))))
def Hq(t:Aw):WF:=Cn qZ! 5 (Kg t)
def Ms(t:Aw):WS:= (Ah (Ax (Ly (wT ma!)) Pq Ch) (Dk (Kt (Si dL! rZ_)) eE_ (Ah r1! r3_)))
def Jf(t:Aw):WF:=Cn qZ_ 4 (Ms t)
def He(t:Aw):WS:= (Ax (wT ma!) (By r5! L_ ai_) Ch)
def Ex(t:Aw):WF:=Cn fX_ 4 (He t)
def Gp(t:Aw):WS:= (Bf (Bb t.B5 "listed" 1 (Hx t) (w2 Bt ct! u!) Af))
def Dp(t:Aw):WF:=Cn U! 2 (Gp t)
def Mz(t:Aw):WS:= (Bf (Ca 1 [0] (Cp (Bb t.B5 "listed" 1 (Hx t) r1_ Af)) R_ (wT (w2 iv! i! (As t.B4 "hidden" u!))) i!))
def Do(t:Aw):WF:=Cn aR! 2 (Mz t)
def Nr(t:Aw):WS:= (Bf (Pr "" (Ca 1 [0] r7! R_ gb_ (w2 Bt (As t.B4 "written" u!) i!))))
def Es(t:Aw):WF:=Cn aR! 2 (Nr t)
def Hf(t:Aw):WS:= (Bf (w1 Vg (Ab r5! Af)))
def Cz(t:Aw):WF:=Cn aR! 2 (Hf t)
def Np:Ad->Option Fl:= (Bh (Ev (f2 Bc iw! iw_) (f2 Bc iw! (fC mi_))))
def Az:List D->Option D:=Cd bG! 1 (Np)
def Se:WS:= (Ah (An 1 Fg) (Ah (Dk (Kt (Eu ix_)) bf! sa!) b0!))
def Gg:WF:=Cn q0_ 1 (Se)
def Wk:WS:= (Ah (An 1 (Ao 1 Gg bw_)) (Ah gc_ (Ah (Dk (Kt eG!) V_ iz!) eH_)))
def Lk:WF:=Cn q1! 1 (Wk)
def Zl(t:Aw):WS:= (Ax sb_ (Bk (Bb t.B4 "put" 4 (Je t) i! (Ab u! (Ab b2_ (Ab gd_ Af))))) (Ax sd_ (Bk (Bb t.B4 "move" 4 (Gh t) i! ge!)) (Ax se_ (Bk (Bb t.B4 "move" 4 (Gh t) i! sf_)) (Ax sh! (Bk (Bb t.B4 "write" 5 (Hq t) i! (Ab u! ge!))) (Ax si_ (Bk (Bb t.B4 "cut" 4 (Jf t) i! ge!)) (Ax sj_ (Bk (Bb t.B4 "set_number" 4 (Ex t) i! ge!)) Ch))))))
def Nc(t:Aw):WF:=Cn fY! 3 (Zl t)
def Wl(t:Aw):WS:= (Ah sl! (Ah (An 2 (Ao 1 Lk bw_)) (Ah (Dk (Kt (Eu ix_)) V_ (Ah eG_ sm_)) b0!)))
def Im(t:Aw):WF:=Cn q1_ 1 (Wl t)
def Vs(t:Aw):WS:= (Ah sn! sn_)
def Lw(t:Aw):WF:=Cn fY_ 2 (Vs t)
def Tn(t:Aw):WS:= (Bf so!)
def Ej(t:Aw):WF:=Cn fZ! 2 (Tn t)
def Ti(t:Aw):WS:= (Ah f6! (Ah (Dk (Ss dN!) bf! (We 1 mv_)) mw_))
def Ew(t:Aw):WF:=Cn vh_ 1 (Ti t)
def Sc(t:Aw):WS:= (Ah sq_ (Bf gg_))
def En(t:Aw):WF:=Cn aR_ 1 (Sc t)
def Tg(t:Aw):WS:= (Bf z7!)
def Fv(t:Aw):WF:=Cn as! 2 (Tg t)
def Vq(t:Aw):WS:= (Bf st!)
def Gw(t:Aw):WF:=Cn as! 2 (Vq t)
def Th(t:Aw):WS:= (Ah su_ (Bf (w2 Bt (w2 Bt (w2 Bt dN! u!) (wl (BL t_))) (wl U_))))
def Hh(t:Aw):WF:=Cn fZ_ 2 (Th t)
def Pa(t:Aw):WS:= (Ah gc_ (Ah (Dk sw_ V_ (Ah eG_ (Ah sA! sC!))) eH_))
def Dg(t:Aw):WF:=Cn q3_ 2 (Pa t)
def Rc(t:Aw):WS:= (Ah gc_ (Dk sE! V_ (Ah sE_ (Ah sI! sH_))))
def Hb(t:Aw):WF:=Cn q5! 2 (Rc t)
def Pb(t:Aw):WS:= (Ah (Ax (Di (Co sJ!)) Gr Ch) sK!)
def Fm(t:Aw):WF:=Cn bH! 2 (Pb t)
def Wm(t:Aw):WS:= (Ah sL! mu!)
def Ll(t:Aw):WF:=Cn as! 2 (Wm t)
def Oi(t:Aw):WS:= (Ah (An 1 aK_) (Ah sN! (Ah (Fo sN_ (Ah Gr (Ah (Bk (Ao 2 (Ll t) (Ab i! (Ab (wl bx!) Af)))) (Ah (Sv 1 (wl t_)) sN!)))) b0!)))
def Ee(t:Aw):WF:=Cn q6_ 1 (Oi t)
def Vo(t:Aw):WS:= (Ah sP_ (Ah (An 2 (Vm (Ao 2 (Fv t) b3_) (w2 bv! u! eL_))) (Ah (Ax (Gs (Di (Co (fT w!))) (wT (w2 (λ_=>Jn) (w1 Pe (Ab eL_ Af)) (wl (fC (.int 8)))))) (Bk (Jz eL_ u!)) Ch) (Bf aK_))))
def Jo(t:Aw):WF:=Cn q8! 2 (Vo t)
def Zk(t:Aw):WS:= (Ah sR_ (Ah (An 2 aK_) (Ah (Dk mF! V_ (Sv 2 sS_)) eH_)))
def Sl(t:Aw):WF:=Cn q7_ 2 (Zk t)
def Qj(t:Aw):WS:= (Ah (An 2 iI_) sT!)
def Gf(t:Aw):WF:=Cn q8_ 2 (Qj t)
def Xq(t:Aw):WS:= (Ah sT_ (Ah (Rv iJ_) (Ah mG_ (Ah (Fo (wT sU!) (Ah sV! (Ah sW_ (Dk sX! c4_ (Bk sZ!))))) iL!))))
def Pn(t:Aw):WF:=Cn q9! 2 (Xq t)
def Vp(t:Aw):WS:= (Ah (An 3 mH!) s1_)
def Ls(t:Aw):WF:=Cn q9_ 3 (Vp t)
def Xp(t:Aw):WS:= (Ah (An 1 iI_) s2_)
def Pm(t:Aw):WF:=Cn [ar_,bX!] 1 (Xp t)
def Sg:Ad->Option Fl:= (sSeq (Gb (λρ=>((n!) ρ).bind Vn) s3! Cq) (Bh C_))
def Nv:List D->Option D:=Cd cW_ 2 (Sg)
def Wp:Ad->Option Fl:= (sSeq (Cj 2 (f2 Bz (f2 Al (f1 Nv (Ac n! c0!)) (f2 Eh (fC (.int 104729)) s5_)) (fC (.int 4294967291)))) (sSeq (Cj 2 (f2 Bz (f2 Eh w! (fC (.int 48271))) (fC (.int 4294967279)))) (Bh (f2 Bz (f2 Al (f2 Eh (f2 Cf w! (fC (.int 64))) (fC (.int 69621))) w!) (fC (.int 4294967231))))))
def Ck:List D->Option D:=Cd vz! 2 (Wp)
def Tk:Ad->Option Fl:= (Bh (f2 Al (f2 Al (fC (.lst [f3!])) (Ey 1 [] eG! R_ (fT mI_) (Av go_))) (fC (.lst [lV!,(.tup [iM!,iM!])]))))
def Ln:List D->Option D:=Cd aA_ 1 (Tk)
def Tj:Ad->Option Fl:= (sSeq (Jv 1 (Ac cd! (Ac (fC (.tup [iM!,iM!,aB_])) Ag))) (sSeq (Rb eG! bf! (Gb s8! s9! Cq)) (Bh s_)))
def Lm:List D->Option D:=Cd rb_ 1 (Tj)
def Vc:Ad->Option Fl:= (sSeq (Cj 2 (fC (.str " abcXYZ.,;!019~[]\\\"'|{}<>@#$&*()-+/=_^:?`"))) (Bh (Rt (fC gm!) (Ey 1 [0,2] (Fi mK!) R_ aJ_ ta!))))
def Nu:List D->Option D:=Cd vD! 2 (Vc)
def Vf:Ad->Option Fl:= s3!
def Dt:List D->Option D:=Cd f0_ 2 (Vf)
def Pl:Ad->Option Fl:= (sSeq ta_ (sSeq tb! (sSeq tc! (sSeq td! (sSeq td_ (sSeq te! (sSeq tf_ (sSeq ti! (sSeq tk! (sSeq tl_ (sSeq tn! (sSeq tp! (sSeq tr! (sSeq tu! (sSeq tu_ tv_)))))))))))))))
def Jy:List D->Option D:=Cd rd! 4 (Pl)
def Qp:Ad->Option Fl:= (sSeq iJ_ (sSeq (Jv 4 iU_) (sSeq (Jv 5 iU_) (sSeq (Rb (Fi w!) c4_ (sSeq ty! (sSeq ty_ (sSeq tz! (sSeq tA! (sSeq tB_ tD!)))))) (Bh F_)))))
def Jq:List D->Option D:=Cd rf! 3 (Qp)
def Ui:WS:= (Ah f6! (Ah (Dk (Kt eG!) bf! (Ah tD_ (Ah (Fo (Di (Cy tE_ tF!)) mT_) tF_))) b0!))
def Fu:WF:=Cn rg! 1 (Ui)
def Vr:WS:= (Ah (An 1 Fg) (Ah (Dk mV! bf! (Ax tI! tJ! Ch)) b0!))
def Lu:WF:=Cn rh! 1 (Vr)
def Xt:WS:= (Ah (An 4 (Ca 1 [1] mW! R_ (Di (fT tK!)) i!)) (Ah (An 5 aK_) (Ah (Fo (Di (Cy tK_ tL_)) tM!) (Ah (Dk (Kt (Fi gu!)) c4_ (Ax tO_ tP! Ch)) (By i! iZ_ (wl (f2 Al tQ! tR!)))))))
def Gi:WF:=Cn rh_ 4 (Xt)
def Xs:WS:= (Ah (Fo (Di in_) (Ah tT! (Ah tU_ (An 1 gj!)))) (Bf me_))
def Lv:WF:=Cn ri_ 3 (Xs)
def Xr:WS:= (Ax (Gs (wT (w2 bv! u! bh!)) (CC (wT (w2 bv! L_ bh!)) (wT (w2 bv! L_ tW_)))) (Ax tX_ tZ! Ch) Ch)
def Iy:WF:=Cn cX_ 4 (Xr)
def Wq:WS:= (Ah m0! (Ah m0_ (Ax sb_ (Ah t1_ (Ah m3! (Ah m3_ m4_))) (Ax sd_ m5! (Ax se_ m5_ (Ax (Gs sj_ (wT gu_)) t4! (Ax (Gs sh! (wT gu_)) (Ah i3! (Ah (An 6 aK_) (Ah (Dk m6! c9! t6_) (Ah t9! ua_)))) (Ax (Gs si_ (wT gu_)) (Ah ud_ (Ah i3! uf_)) Ch))))))))
def Vi:WF:=Cn rj! 2 (Wq)
def Ve:WS:= (Ah ui! (Ah uh_ (Ah (Dk mV! V_ (Ax (Gs ui_ uk_) ul_ Ch)) b0!)))
def Po:WF:=Cn rk! 1 (Ve)
def Tl:WS:= (Bf (Ca 1 [1] mW! R_ (Di (fT um_)) (wl a0_)))
def Iz:WF:=Cn bY_ 2 (Tl)
def Rf:WS:= (Bf (Pr "" (Ca 1 [] un! R_ (Di (fT dG_)) (wl dG!))))
def Hc:WF:=Cn bY_ 2 (Rf)
def Tf(g:WF):WS:= (Ah (An 3 gg!) (Ah (Dk uo! eE_ (Ah uo_ (Ah up! (Ah (Dk (Kt (Fi cs_)) c9! (Ax m9_ us_ Ch)) (Ah (Bk na!) (An 3 (Sw ai_ (Ao 3 g ut_)))))))) iL!))
def Vd:Nat->WS
 |0=>λ_ _ _=>False
 |n+1=>Tf (Cn lR! 3 (Vd n))
def Hz(n:Nat):WF:=Cn lR! 3 (Vd n)
def Yr(t:Aw):WS:= (Ah ux! (Ah uy! (Ah uy_ (Ah uz! (Ah uD! uE_)))))
def Yu(t:Aw):WF:=Cn rm! 1 (Yr t)
structure Txt(P:xR!)(w:xM!)(K:zT!)(mg:B_)(t:Aw):Prop where
 C8:Gj K mg "is_whole" Os p_
 C9:Gj K mg "is_below" Ou fU!
 D1:Gj K mg "is_from_one" Ku p_
 D2:Gj K mg "is_name" Px p_
 D3:Gj K mg "is_sign_name" Kb p_
 D4:Gj K mg "is_item" Py p_
 D5:Gj K mg "is_sibling" Mm p_
 D6:Gj K mg "is_behind" Nl p_
 D7:Gj K mg "is_sign" Pv dC_
 D8:Gj K mg "is_text" Mx p_
 D9:Gj K mg "is_place" Ot p_
 E1:Gj K mg "are_parts" Jt fV!
 E2:Gj K mg "is_deed" Pz p_
 E3:Gj K mg "is_operation" Kc p_
 E4:Gj K mg "time_and_hand" Jh bG!
 E5:Gj K mg "in_order" Ov aY_
 E6:Uc K mg "Row" t.B5 "Row.__init__" Rn aQ_
 E7:Dd K t.B5 "holds" "Row.holds" Nn U!
 E8:Dd K t.B5 "put_behind" "Row.put_behind" Ix lD_
 E9:Dd K t.B5 "take_out" "Row.take_out" Kd U!
 F7:Dd K t.B5 "listed" "Row.listed" Mn aQ_
 F8:Uc K mg "Outline" t.B4 "Outline.__init__" Mo aQ_
 F9:Dd K t.B4 "has" "Outline.has" Kx U!
 G6:Dd K t.B4 "has_item" "Outline.has_item" Ht U!
 G7:Dd K t.B4 "is_within" "Outline.is_within" Hd fW_
 G8:Dd K t.B4 "put" "Outline.put" Kw cT_
 G9:Dd K t.B4 "can_move" "Outline.can_move" Hu fX!
 H9:Dd K t.B4 "move" "Outline.move" Ke cT_
 J0:Dd K t.B4 "write" "Outline.write" Jj lE_
 J1:Dd K t.B4 "cut" "Outline.cut" Ky lF!
 J2:Dd K t.B4 "set_number" "Outline.set_number" Gn fX_
 J3:Dd K t.B4 "children_of" "Outline.children_of" Ga U!
 J4:Dd K t.B4 "signs_of" "Outline.signs_of" Fc aR!
 J5:Dd K t.B4 "text_of" "Outline.text_of" Fp aR!
 J6:Dd K t.B4 "numbers_of" "Outline.numbers_of" Go aR!
 J7:Gj K mg "is_undo_or_redo" Ie bG!
 J8:Gj K mg "last_words" Ml aY_
 J9:Gj K mg "undone" Rk aY_
 K0:Gj K mg "play" Uz fY!
 K4:Gj K mg "played" Rl aY_
 K6:Uc K mg "Hand" t.B3 "Hand.__init__" Qg fY_
 K7:Dd K t.B3 "have" "Hand.have" No fZ!
 K8:Gj K mg "all_taken" Nm aR_
 K9:Gj K mg "outline_of" Mj aR_
 L0:Gj K mg "was_taken" Nj as!
 L5:Gj K mg "is_next" Pw as!
 L6:Gj K mg "last_time" Nk fZ_
 L7:Gj K mg "not_yet_taken" Ji bH!
 L8:Gj K mg "check_times" Kv lH_
 L9:Gj K mg "check_message" Gu bH!
 M6:Gj K mg "accept" Rm as!
 M7:Gj K mg "accept_waiting" Er aR_
 M9:Gj K mg "receive" Pt as!
 N0:Gj K mg "take" Uy bH!
 N3:Gj K mg "outline_with" Ka lI_
 N4:Gj K mg "pages" Sx lJ_
 N5:Gj K mg "line_of" Mw lK!
 N6:Gj K mg "shown" Ps aR_
 N7:Gj K mg "_law_cell" Tc cW_
 N8:Gj K mg "_law_mix" Va cW_
 N9:Gj K mg "_law_items" Of aA_
 O0:Gj K mg "_law_signs" Rp aA_
 O1:Gj K mg "_law_text" Qb nL_
 O2:Gj K mg "_law_pick" Ta f0_
 O3:Gj K mg "_law_deed" Qf lM_
 O4:Gj K mg "_law_world" Ro lN!
 O5:Gj K mg "_law_ordered" Ow aA_
 O6:Gj K mg "_law_undone" Qa aA_
 O7:Gj K mg "_law_hang" Qd cX_
 O8:Gj K mg "_law_lies" Qc lO!
 O9:Gj K mg "_law_move" Tb cX_
 P0:Gj K mg "_law_do" Qe nW_
 P1:Gj K mg "_law_play" Sz aA_
 P3:Gj K mg "_law_children" Ju bY_
 P4:Gj K mg "_law_shown_text" Ig bY_
 P5:Gj K mg "_law_rows" Sy f1_
 P6:Gj K mg "law" Rx [bH_]
 P7:mg "abs"=none
 P8:mg "all"=none
 P9:mg "bool"=none
 Q0:mg "enumerate"=none
 Q3:mg "int"=none
 Q4:mg "isinstance"=none
 Q5:mg "len"=none
 Q6:mg "list"=none
 Q7:mg "ord"=none
 Q8:mg "range"=none
 Q9:mg "reversed"=none
 R0:mg "sorted"=none
 R4:mg "str"=none
 R6:mg "tuple"=none
 R7:mg "zip"=none
 R8:∃tk,mg "HANDS"=some (.int 16 tk)
 R9:∃tk,mg "SIGNS"=some (.int 16 tk)
 S0:∃tk,mg "PLACES"=some (.int 4 tk)
 S7:∃tk,mg "LEFT_OUT"=some (.int 37 tk)
 S8:∃tk,mg "MOST_WAITING"=some (.int 8 tk)
 S9:mg "is_item"=some (.ref t.A0)
 T0:mg "is_sibling"=some (.ref t.A5)
 T1:mg "is_behind"=some (.ref t.A6)
 T2:mg "is_text"=some (.ref t.A7)
 T3:mg "is_sign_name"=some (.ref t.A8)
 T4:mg "is_from_one"=some (.ref t.A9)
 T5:mg "is_place"=some (.ref t.B0)
 T6:mg "is_whole"=some (.ref t.B1)
 T7:mg "is_name"=some (.ref t.B2)
 T8:Ud K t.B3
 T9:Ud K t.B4
 U0:Ud K t.B5
 U1:Ef K t.B5 "following"
 U2:Ef K t.B5 "preceding"
 U3:Ef K t.B4 "parents"
 U4:Ef K t.B4 "rows"
 U5:Ef K t.B4 "texts"
 U6:Ef K t.B4 "numbers"
 U7:Ef K t.B4 "written"
 U8:Ef K t.B4 "hidden"
 U9:Ef K t.B3 "ours"
 V0:Ef K t.B3 "taken"
 V2:Ef K t.B3 "waiting"
 V3:Ef K t.B3 "outline"
 V4:∀X:Cx,X.prog=P->X.w=w->X.K=K->X.mg=mg->Ub X "PARTS" f4_
def dG:∀(l:g!) (d v:D),kget eX_ d=some v
 |[],d,v=>by simp[Aq,kget]
 |(k,x)::r,d,v=>by
  unfold Aq;by_cases h:k=d
  .rw[GU h];simp[kget,h]
  .rw[GL h];simp[kget,h,dG r d v]
def dM(h:d≠e):∀(l:g!) (v:D),kget eX_ e=kget l e
 |[],v=>by simp[Aq,kget,h]
 |(k,x)::r,v=>by
  unfold Aq;show"!d"
  .rw[a4!];subst hk;simp[kget,h]
  .rw[aD_];simp only[kget];rw[dM h r v]
def wM(h:d≠e):∀(l:g!),kget gy_ e=kget l e
 |[]=>rfl
 |(k,x)::r=>by
  unfold Gm;show"!d"
  .rw[a4!];subst hk;simp[kget,h]
  .rw[aD_];simp only[kget];rw[wM h r]
def a3d:∀{l:g!} {d:D},kget l d≠none↔d∈l.map b!
 |[],d=>by simp[kget]
 |(k,x)::r,d=>by
  unfold kget;show"!d"
  .subst hk;simp
  .rw[aD_,a3d];simp[GN hk]
def wL:∀{l:g!} {d:D},(ei_).Nodup->kget gy_ d=none
 |[],d,_=>rfl
 |(k,x)::r,d,h=>by
  rw[GM,HA]at h;unfold Gm;show"!d"
  .rw[a4!];subst hk;cases e:kget r k with
   |none=>rfl
   |some v=>exact absurd (a3d.mp kt_) h.1
  .rw[aD_];unfold kget;rw[aD_];exact wL h.2
def a2f:∀{l:g!} {d v:D} {e:D},e∈(eX_).map b!↔e=d\/e∈l.map b!
 |[],d,v,e=>by simp[Aq]
 |(k,x)::r,d,v,e=>by
  unfold Aq;show"!d"
  .rw[a4!];subst hk;simp
  .rw[aD_];simp only[GM,GJ];rw[a2f];constructor<;>(rintro(h|h|h)<;>simp[h])
def jY:∀{l:g!} {d v:D},(ei_).Nodup->((eX_).map b!).Nodup
 |[],d,v,_=>by simp[Aq]
 |(k,x)::r,d,v,h=>by
  rw[GM,HA]at h;unfold Aq;show"!d"
  .rw[a4!];simp only[GM,HA];exact h
  .rw[aD_];simp only[GM,HA];refine⟨cK_,jY h.2⟩;obtain z|z:=a2f.mp z
   .exact hk z
   .exact h.1 z
def b9r:∀{l:g!} {d e:D},e∈(gy_).map b!->e∈l.map b!
 |[],d,e,h=>by simp[Gm]at h
 |(k,x)::r,d,e,h=>by
  unfold Gm at h;show"!d"
  .rw[a4!]at h;simp only[GM,GJ];exact .inr h
  .rw[aD_]at h;simp only[GM,GJ]at h ⊢;obtain h|h:=h
   .exact .inl h
   .exact .inr (b9r h)
def b9s:∀{l:g!} {d:D},(ei_).Nodup->((gy_).map b!).Nodup
 |[],d,_=>by simp[Gm]
 |(k,x)::r,d,h=>by
  rw[GM,HA]at h;unfold Gm;show"!d"
  .rw[a4!];exact h.2
  .rw[aD_];simp only[GM,HA];exact⟨λz=>h.1 (b9r z),b9s h.2⟩
def wE:∀{l:g!} {d v:D},kget l d≠none->(eX_).length=O!
 |[],d,v,h=>by simp[kget]at h
 |(k,x)::r,d,v,h=>by
  unfold Aq;show"!d"
  .rw[a4!];rfl
  .rw[aD_];unfold kget at h;rw[aD_]at h;simp[wE h]
def wQ:∀{l:g!} {d:D},kget l d≠none->(gy_).length+1=O!
 |[],d,h=>by simp[kget]at h
 |(k,x)::r,d,h=>by
  unfold Gm;show"!d"
  .rw[a4!];rfl
  .rw[aD_];unfold kget at h;rw[aD_]at h;simp[wQ h]
def Jm{α:Type}:List α->List (α×α)
 |a::b::r=>X_::Jm (b::r)
 |_=>[]
def eP{α:Type}:∀(u:J!) (a b:α) (v:J!),Jm (u++a::b::v)=Jm (u++[a])++X_::Jm (b::v)
 |[],a,b,v=>rfl
 |[x],a,b,v=>rfl
 |x::y::u,a,b,v=>by
  have:=eP (y::u) a b v;simp only[MD]at this ⊢;simp only[Jm,MD];rw[this]
def b1v{α:Type}:∀(a:α) (l:J!),(Jm (a::l)).map b!=(a::l).dropLast
 |a,[]=>rfl
 |a,b::r=>by simp only[Jm,GM,b1v b r,List.dropLast]
def b1u{α:Type}:∀(a:α) (l:J!),(Jm (a::l)).map z_=l
 |a,[]=>rfl
 |a,b::r=>by simp only[Jm,GM,b1u b r]
def Js(xs:b_):List D:=.non::(xs++[.non])
def a4a(xs:b_):(eY_).map b!=.non::xs:=by unfold Js;rw[b1v,show(D.non::(xs++[.non]))=(.non::xs)++[.non]from rfl,List.dropLast_concat]
def qD(xs:b_):(eY_).map z_=xs++[.non]:=b1u _ _
structure Ph(kf kp:g!)(xs:b_):Prop where
 f:∀a b,kget kf a=some b↔X_∈Jm aM!
 p:∀a b,kget kp b=some a↔X_∈Jm aM!
 nd:xs.Nodup
 no:D.non∉xs
 kf_nd:(kf.map b!).Nodup
 kp_nd:(kp.map b!).Nodup
 fl:kf.length=i_+1
 pl:kp.length=i_+1
def iH{α β:Type}:∀{l:List (α×β)} {a:α} {b c:β},(ei_).Nodup->X_∈l->(a,c)∈l->b=c
 |[],_,_,_,_,h,_=>by cases h
 |(x,y)::r,a,b,c,nd,B,Y=>by
  rw[GM,HA]at nd;obtain z|z:=GJ.mp B<;>obtain w|w:=GJ.mp Y
  .cases z;cases w;rfl
  .cases z;exact absurd uI! nd.1
  .cases w;exact absurd uI_ nd.1
  .exact iH nd.2 z w
def Ph.hasF(h:i8_)(a:D):kget kf a≠none↔a=.non\/a∈xs:=by
 have e:=a4a xs;show"!O"
 .intro z;cases q:kget kf a with
  |none=>exact absurd q z
  |some b=>
   have:=GP (f:=b!) ((h.f a b).mp q);rw[e]at this;show"#6"
 .intro z;have:a∈(eY_).map b!:=by rw[e];simpa using z
  obtain⟨⟨x,b⟩,hm,rfl⟩:=HB.mp this;rw[(h.f x b).mpr hm];simp
def Ph.hasP(h:i8_)(b:D):kget kp b≠none↔b=.non\/b∈xs:=by
 have e:=qD xs;show"!O"
 .intro z;cases q:kget kp b with
  |none=>exact absurd q z
  |some a=>
   have:=GP (f:=z_) ((h.p a b).mp q);rw[e]at this;obtain w|w:=GT.mp this
   .exact .inr w
   .exact .inl (by simpa using w)
 .intro z;have:b∈(eY_).map z_:=by rw[e];obtain rfl|z:=z<;>simp[*]
  obtain⟨⟨a,y⟩,hm,rfl⟩:=HB.mp this;rw[(h.p a y).mpr hm];simp
def b7a:Ph i9! i9! []:=by
 refine⟨e0!,e0!,H!,H!,H!,H!,rfl,rfl⟩<;>
 .simp only[Js,Jm,kget,JF,GJ,HS,JO,JS];show"!O"
  .intro z;split at z
   .rename_i q;cases z;exact⟨by first|exact q.symm|rfl,by first|rfl|exact q.symm⟩
   .cases z
  .rintro⟨rfl,rfl⟩;simp
def Ws(n a:D):List D->List D
 |[]=>[]
 |x::r=>open Classical in if x=a then x::n::r else x::Ws n a r
def Pc(n a:D)(xs:b_):List D:=open Classical in if a∈xs then Ws n a xs else n::xs
def kD:∀{u v:b_},a∉u->Ws n a (u++a::v)=u++a::n::v
 |[],v,_=>by simp[Ws]
 |x::u,v,h=>by
  rw[GJ,NB]at h;simp only[MD,Ws];rw[kN!,kD h.2]
def Ph.ins(h:i8_)(e:Js xs=u++a0::b0::v)(e':Js iq=u++a0::n::b0::v)(hn:n∉xs)(h0:n≠.non):
  Ph (Aq e0_ n b0) (Aq e1! b0 n) iq:=by
 have P:=eP u a0 b0 v;have P':Jm (Js iq)=Jm i9_++(a0,n)::(n,b0)::Jm ja!:=by rw[e',eP];rfl
 rw[<-e]at P;have F:=a4a xs;have S:=qD xs;have zd:(D.non::xs).Nodup:=HA.mpr uK_;have v9:(xs++bK!).Nodup:=by
  rw[HU];exact uL!
 have nf:∀a b,X_∈Jm aM!->a≠n:=λa b hm z=>by
  have:=GP (f:=b!) hm;rw[F]at this;obtain w|w:=GJ.mp this
  .exact h0 jb!
  .exact hn jb!
 have ns:∀a b,X_∈Jm aM!->b≠n:=λa b hm z=>by
  have:=GP (f:=z_) hm;rw[S]at this;obtain w|w:=GT.mp this
  .exact hn jb!
  .simp at w;exact h0 jb!
 have m0:(a0,b0)∈Jm aM!:=by rw[P];simp
 have wb:a0≠n:=nf _ _ m0;have qf:b0≠n:=ns _ _ m0;have dF:∀a b,X_∈Jm i9_\/X_∈Jm ja!->X_∈Jm aM!/\a≠a0/\b≠b0:=λa b hm=>by
  have q:X_∈Jm aM!:=by rw[P];obtain z|z:=hm<;>simp[z]
  have gc:=F▸zd;have bf:=S▸v9;rw[P]at gc bf;simp only[HM,GM]at gc bf;rw[HU,HA]at gc bf;refine⟨q,cK_,cK_⟩
  .obtain w|w:=hm
   .exact gc.2.2 _ uI! _ c_ z
   .exact gc.2.1.1 (z▸GP (f:=b!) w)
  .obtain w|w:=hm
   .exact bf.2.2 _ (GP (f:=z_) w) _ c_ z
   .have:=GP (f:=z_) w;rw[show(X_).2=b0 from z]at this;exact bf.2.1.1 this
 have len:iq.length=i_+1:=by
  show"!Q"
 have fq:(iq++bK!).Nodup:=by
  rw[<-qD iq,P'];have bf:=S▸v9;rw[P]at bf;simp only[HM,GM]at bf ⊢;rw[HU,HA]at bf;rw[HU,HA,HA];refine⟨bf.1,⟨cK_,bf.2.1.1,bf.2.1.2⟩,uL_⟩
  .obtain z|z:=GJ.mp z
   .exact qf z.symm
   .obtain⟨⟨c,d⟩,hm,rfl⟩:=HB.mp z;exact ns c d uM! rfl
  .obtain rfl|O:=GJ.mp O
   .obtain⟨⟨c,d⟩,hm,rfl⟩:=HB.mp ha;exact ns c d uM!
   .exact uN_
 rw[HU]at fq;refine⟨e0!,e0!,fq.1,uN!,jY (jY h.kf_nd),jY (jY h.kp_nd),?_,?_⟩
 .rw[P'];show"!S";by_cases q1:n=a
  .show"##"
   .show"!c";simp
   .rintro(z|⟨z,_⟩|⟨_,z⟩|z)
    .exact absurd rfl (nf _ _ (da_).1)
    .exact absurd z.symm wb
    .rw[z]
    .exact absurd rfl (nf _ _ (db!).1)
  .rw[dM q1];by_cases q2:a0=a
   .subst q2;rw[dG];show"!O"
    .show"!c";simp
    .rintro(z|⟨_,z⟩|⟨z,_⟩|z)
     .exact absurd rfl (da_).2.1
     .rw[z]
     .exact b7!
     .exact absurd rfl (db!).2.1
   .rw[dM q2,h.f,P];show"!S";show"!O"
    .show"#@"
     .exact cz_
     .exact gz_
     .exact jb_
    .rintro(z|⟨z,_⟩|⟨z,_⟩|z)
     .exact cz_
     .exact gz_
     .exact b7!
     .exact jc!
 .rw[P'];show"!S";by_cases q1:b0=b
  .show"##"
   .show"!c";simp
   .rintro(z|⟨_,z⟩|⟨z,_⟩|z)
    .exact absurd rfl (da_).2.2
    .exact absurd z qf
    .rw[z]
    .exact absurd rfl (db!).2.2
  .rw[dM q1];by_cases q2:n=b
   .subst q2;rw[dG];show"!O"
    .show"!c";simp
    .rintro(z|⟨z,_⟩|⟨_,z⟩|z)
     .exact absurd rfl (ns _ _ (da_).1)
     .rw[z]
     .exact absurd z.symm qf
     .exact absurd rfl (ns _ _ (db!).1)
   .rw[dM q2,h.p,P];show"!S";show"!O"
    .show"#A"
     .exact cz_
     .exact b7!
     .exact jb_
    .rintro(z|⟨_,z⟩|⟨_,z⟩|z)
     .exact cz_
     .exact gz_
     .exact b7!
     .exact jc!
 .have f0:kget kf a0≠none:=by rw[(nh_).mpr m0];simp
  have f1:n∉(e0_).map b!:=λz=>by
   obtain z|z:=a2f.mp z
   .exact wb z.symm
   .obtain w|w:=(h.hasF n).mp (a3d.mpr z)
    .exact h0 w
    .exact hn w
  rw[iG f1,GW,wE f0,h.fl,len];rfl
 .have f1:n∉kp.map b!:=λz=>by
   obtain w|w:=(h.hasP n).mp (a3d.mpr z)
   .exact h0 w
   .exact hn w
  have f0:kget e1! b0≠none:=by rw[dM (GN qf),(ni!).mpr m0];simp
  rw[wE f0,iG f1,GW,h.pl,len];rfl
def Ph.out(h:i8_)(e:Js xs=u++a0::n::b0::v)(e':Js iq=u++a0::b0::v)(h0:n≠.non):
  Ph uQ! uQ_ iq:=by
 have P':=eP u a0 b0 v;have P:Jm aM!=Jm i9_++(a0,n)::(n,b0)::Jm ja!:=by rw[e,eP];rfl
 rw[<-e']at P';have F:=a4a xs;have S:=qD xs;have zd:((eY_).map b!).Nodup:=by rw[F];exact HA.mpr uK_
 have v9:((eY_).map z_).Nodup:=by
  rw[S,HU];exact uL!
 have gc:=zd;have bf:=v9;rw[P]at gc bf;simp only[HM,GM]at gc bf;rw[HU,HA,HA]at gc bf;have wb:a0≠n:=λz=>gc.2.1.1 fT_;have qf:b0≠n:=λz=>bf.2.1.1 fT_;have m1:(a0,n)∈Jm aM!:=by rw[P];simp
 have m2:(n,b0)∈Jm aM!:=by rw[P];simp
 have len:i_=iq.length+1:=by
  show"!Q"
 have dF:∀a b,X_∈Jm i9_\/X_∈Jm ja!->X_∈Jm aM!/\(a≠a0/\a≠n)/\(b≠b0/\b≠n):=λa b hm=>by
  have q:X_∈Jm aM!:=by rw[P];obtain z|z:=hm<;>simp[z]
  have g1:a≠a0/\a≠n:=by
   obtain w|w:=hm
   .have:=GP (f:=b!) w;exact⟨uR!,uR!⟩
   .have:=GP (f:=b!) w;exact⟨λz=>gc.2.1.1 (GI _ jd_),λz=>gc.2.1.2.1 jd_⟩
  have g2:b≠b0/\b≠n:=by
   obtain w|w:=hm
   .have:=GP (f:=z_) w;exact⟨uR_,uR_⟩
   .have:=GP (f:=z_) w;exact⟨λz=>bf.2.1.2.1 jd_,λz=>bf.2.1.1 (GI _ jd_)⟩
  exact⟨q,g1,g2⟩
 have fq:(iq++bK!).Nodup:=by
  rw[<-qD iq,P'];simp only[HM,GM];rw[HU,HA];exact⟨bf.1,bf.2.1.2,λa ha b O=>bf.2.2 a ha b (GI _ O)⟩
 rw[HU]at fq;have Y2:kget kf a0≠none:=by rw[(nh_).mpr m1];simp
 have db:kget kp b0≠none:=by rw[(ni!).mpr m2];simp
 refine⟨e0!,e0!,fq.1,uN!,jY (b9s h.kf_nd),jY (b9s h.kp_nd),?_,?_⟩
 .rw[P'];show"!S";by_cases q1:a0=a
  .show"##"
   .show"!c";simp
   .show"#A"
    .exact absurd rfl (da_).2.1.1
    .rw[z]
    .exact absurd rfl (db!).2.1.1
  .rw[dM q1];by_cases q2:n=a
   .subst q2;rw[wL h.kf_nd];show"!O"
    .show"!c"
    .show"#@"
     .exact absurd rfl (da_).2.1.2
     .exact b7!
     .exact absurd rfl (db!).2.1.2
   .rw[wM q2,h.f,P];show"!S";show"!O"
    .rintro(z|⟨z,_⟩|⟨z,_⟩|z)
     .exact cz_
     .exact b7!
     .exact gz_
     .exact jc!
    .show"#@"
     .exact cz_
     .exact b7!
     .exact jb_
 .rw[P'];show"!S";by_cases q1:b0=b
  .show"##"
   .show"!c";simp
   .show"#@"
    .exact absurd rfl (da_).2.2.1
    .rw[z]
    .exact absurd rfl (db!).2.2.1
  .rw[dM q1];by_cases q2:n=b
   .subst q2;rw[wL h.kp_nd];show"!O"
    .show"!c"
    .show"#A"
     .exact absurd rfl (da_).2.2.2
     .exact b7!
     .exact absurd rfl (db!).2.2.2
   .rw[wM q2,h.p,P];show"!S";show"!O"
    .rintro(z|⟨_,z⟩|⟨_,z⟩|z)
     .exact cz_
     .exact gz_
     .exact b7!
     .exact jc!
    .show"#A"
     .exact cz_
     .exact b7!
     .exact jb_
 .have:=wQ (l:=kf) (d:=n) (by rw[(nh_).mpr m2];simp);rw[wE (by rw[wM (GN wb)];exact Y2)];have:=h.fl;omega
 .have:=wQ (l:=kp) (d:=n) (by rw[(ni!).mpr m1];simp);rw[wE (by rw[wM (GN qf)];exact db)];have:=h.pl;omega
def d1k:(Str.ofString "following"==Str.ofString "preceding")=false:=by decide+kernel
def d0p:(Str.ofString "preceding"==Str.ofString "following")=false:=by decide+kernel
def zW:(Str.ofString "following"==Str.ofString "following")=true:=by decide+kernel
def lkP:List.lookup (Str.ofString "preceding") [(Str.ofString "following",a),(Str.ofString "preceding",b)]=some b:=by simp[IF,d0p]
structure El(t:Aw)(M:Mh)(r f p:xh!)(xs:b_):Prop where
 ob:M r=some (.obj t.B5 [("following",.fn f),("preceding",.fn p)])
 dc:∃kf ef kp ep,M f=some (.dct kf ef)/\M p=some (.dct kp ep)/\Ph kf kp xs
 ne:f≠p
def zS:Ci d=true↔d=.non:=by cases d<;>simp[Ci]
def jH(hd:d≠.non):Ci d=false:=by cases q:Ci d with|false=>rfl|true=>exact absurd (zS.mp q) hd
def a7f{t:Aw}{M:Mh}{R:v_}(h:dU!)(hk:bo!)(hR:R (.bl (open Classical in decide (d∈xs))) M):Hk t [.fn r,d] M R:=by
 obtain⟨kf,ef,kp,ep,hf,hp,K⟩:=h.dc;refine m_;by_cases hd:d=.non
 .subst hd;have:(D.non∈xs)=False:=by simp[K.no]
  simp only[this,OU]at hR;simpa[Ld,Bf,Mf,wT,wl,f2,Aa,fC,Ap,Ci]using hR
 .have e3:(kget kf d).isSome=(open Classical in decide (d∈xs)):=by
   have:=K.hasF d;cases q:kget kf d with
   |none=>rw[q]at this;simp[hd]at this;simp[this]
   |some v=>rw[q]at this;simp[hd]at this;simp[this]
  rw[<-e3]at hR;simpa[Ld,Bf,Mf,wT,wl,f2,Aa,fC,Ap,jH hd,w2,As,Gz,h.ob,Dw,Ir,hf,hk,zW]using hR
def mB{α:Type}{a:α}:∀{l:J!},a∈l->∃u v,l=u++a::v/\a∉u
 |x::r,h=>open Classical in by
  by_cases e:a=x
  .exact⟨[],r,by rw[e];rfl,H!⟩
  .obtain⟨u,v,rfl,hu⟩:=mB ((GJ.mp h).resolve_left e);exact⟨x::u,v,rfl,by simp[e,hu]⟩
def b7k(h0:D.non∉xs):∃u b0 v,Js xs=u++(open Classical in if o∈xs then o else .non)::b0::v/\Js (Pc n o xs)=u++(open Classical in if o∈xs then o else .non)::n::b0::v:=by
 by_cases h:o∈xs
 .obtain⟨u,v,rfl,hu⟩:=mB h;obtain⟨b0,v',e⟩:∃b0 v',v++[D.non]=b0::v':=by cases v with|nil=>exact bz!|cons a r=>exact bz!
  refine⟨.non::u,b0,v',?_,?_⟩
  .rw[GU h];simp[Js,e]
  .unfold Pc;rw[GU h,GU h,kD hu];simp[Js,e]
 .obtain⟨b0,v',e⟩:∃b0 v',xs++[D.non]=b0::v':=by cases xs with|nil=>exact bz!|cons a r=>exact bz!
  refine⟨[],b0,v',?_,?_⟩
  .rw[GL h];simp[Js,e]
  .unfold Pc;rw[GL h,GL h];simp[Js,e]
def iS{t:Aw}{M:Mh}{xs:b_}{R:v_}(h:dU!)(hn:Dm n=some kn)(ho:Dm o=some ko)(n0:n≠.non)(nx:n∉xs)(hl:i_<5000)(gd:nn!)
  (hR:∀M',El t M' r f p (Pc n o xs)->uU!->R .non M'):Cs t [.fn r,n,o] M R:=by
 obtain⟨kf,ef,kp,ep,hf,hp,K⟩:=h.dc;have oj:r≠f:=λz=>by have:=h.ob;rw[z,hf]at this;cases this
 have jq:r≠p:=λz=>by have:=h.ob;rw[z,hp]at this;cases this
 obtain⟨u,b0,v,c1,c2⟩:=b7k (n:=n) (o:=o) K.no;generalize ea:(open Classical in if o∈xs then o else D.non)=a0 at c1 c2;have m0:(a0,b0)∈Jm aM!:=by rw[c1,eP];simp
 have km:kget kf a0=some b0:=(gB!).mpr m0;have K':=K.ins c1 c2 nx n0;have ka:∃k,Dm a0=some k:=by
  have:=(K.hasF a0).mp uU_;obtain rfl|z:=this
  .exact H_
  .exact gd _ z
 have kb:∃k,Dm b0=some k:=by
  have:=(K.hasP b0).mp (by rw[(no!).mpr m0];simp);obtain rfl|z:=this
  .exact H_
  .exact gd _ z
 obtain⟨ka,ze⟩:=ka;obtain⟨kb,zf⟩:=kb;have l1:kf.length<big:=by have:=K.fl;unfold big;omega
 have l2:kp.length<big:=by have:=K.pl;unfold big;omega
 have l3:(e0_).length<big:=JD dU_ (by have:=K.fl;unfold big;omega);have l4:(e1!).length<big:=JD dU_ (by have:=K.pl;unfold big;omega);refine m_;simp only[Jl,Ah,An,AE,wT,Bb,wl,Ab,Af,Aa];simp[De,h.ob,d1k,zW];refine⟨⟨ew_,ew_⟩,?_⟩;refine a7f h ho ?_;have key:∀(b:Bool),b=(open Classical in decide (o∈xs))->((b=true/\o=a0)\/(b=false/\D.non=a0)):=λb O=>by
  subst O;rw[<-ea];by_cases z:o∈xs<;>simp[z]
 generalize O:(open Classical in decide (o∈xs))=b;have fin:R .non (Ay (Ay (Ay (Ay M f (.dct e0_ (Ge kf a0 ef))) p (.dct e1! (Ge kp n ep))) f (.dct (Aq e0_ n b0) (Ge e0_ n (Ge kf a0 ef)))) p (.dct (Aq e1! b0 n) (Ge e1! b0 (Ge kp n ep)))):=by
  refine hR _ uV_ λb t3 t6=>?_
  .rw[jj!,jj_,jj!,jj_];exact h.ob
  .rw[jk!,ji_,jk!,ji_]
 obtain⟨rfl,rfl⟩|⟨rfl,rfl⟩:=key b O.symm<;>
 simpa[Ah,An,w2,wl,As,By,Dw,Gz,Aa,fC,f2,h.ob,zW,lkP,Bt,hf,hp,ze,zf,hn,km,Kn,l1,l2,l3,l4,mup_ne,mup_same,oj,jq,h.ne,GN h.ne]using fin
def a4r{t:Aw}{M:Mh}{xs:b_}{R:v_}(h:dU!)(L:xs=u++n::v)(hn:Dm n=some kn)(hl:i_<5000)(gd:nn!)
  (hR:∀M',El t M' r f p bi!->uU!->R .non M'):Ip t [.fn r,n] M R:=by
 obtain⟨kf,ef,kp,ep,hf,hp,K⟩:=h.dc;have oj:r≠f:=λz=>by have:=h.ob;rw[z,hf]at this;cases this
 have jq:r≠p:=λz=>by have:=h.ob;rw[z,hp]at this;cases this
 have n0:n≠.non:=λz=>K.no (by rw[L,<-z];simp);obtain⟨b0,v',ev⟩:∃b0 v',v++[D.non]=b0::v':=by cases v with|nil=>exact bz!|cons a r=>exact bz!
 obtain⟨u',a0,eu⟩:∃u' a0,D.non::u=u'++[a0]:=⟨(jk_).dropLast,(jk_).getLast c_,(List.dropLast_concat_getLast c_).symm⟩;have c1:Js xs=u'++a0::n::b0::v':=by
  rw[L];show D.non::uX!=_;rw[show D.non::uX!=jk_++n::(v++bK!)by simp,eu,ev];simp
 have c2:Js bi!=u'++a0::b0::v':=by
  show D.non::(u++v++bK!)=_;rw[show D.non::(u++v++bK!)=jk_++(v++bK!)by simp,eu,ev];simp
 have m1:(a0,n)∈Jm aM!:=by rw[c1,eP];simp
 have m2:(n,b0)∈Jm aM!:=by rw[c1,show u'++a0::n::b0::v'=(u'++[a0])++n::b0::v' by simp,eP];simp
 have zg:kget kp n=some a0:=(no!).mpr m1;have km:kget kf n=some b0:=(gB!).mpr m2;have K':=K.out c1 c2 n0;have ka:∃k,Dm a0=some k:=by
  have:=(K.hasF a0).mp (by rw[(gB!).mpr m1];simp);obtain rfl|z:=this
  .exact H_
  .exact gd _ z
 have kb:∃k,Dm b0=some k:=by
  have:=(K.hasP b0).mp (by rw[(no!).mpr m2];simp);obtain rfl|z:=this
  .exact H_
  .exact gd _ z
 obtain⟨ka,ze⟩:=ka;obtain⟨kb,zf⟩:=kb;have l1:(jc_).length<big:=by have:=wQ (l:=kf) (d:=n) uU_;have:=K.fl;unfold big;omega
 have l2:(jd!).length<big:=by have:=wQ (l:=kp) (d:=n) (by rw[zg];simp);have:=K.pl;unfold big;omega
 refine m_;have fin:R .non (Ay (Ay (Ay (Ay M p (.dct jd! ba_)) f (.dct jc_ (ef+1))) f (.dct uQ! (Ge jc_ a0 (ef+1)))) p (.dct uQ_ (Ge jd! b0 ba_))):=by
  refine hR _ uV_ λb t3 t6=>?_
  .rw[jj!,jj_,jj_,jj!];exact h.ob
  .rw[jk!,ji_,ji_,jk!]
 simpa[Lc,Ah,An,w2,wl,As,By,Xg,Ek,Dw,Gz,Aa,fC,f2,h.ob,zW,lkP,hf,hp,ze,zf,hn,km,zg,Kn,l1,l2,mup_ne,mup_same,oj,jq,h.ne,GN h.ne]using fin
def zM{t:Aw}{M:Mh}{xs:b_}{R:v_}(h:dU!)(hl:i_<5000)(gd:nn!)(hR:R J_ M):Hx t [.fn r] M R:=by
 obtain⟨kf,ef,kp,ep,hf,hp,K⟩:=h.dc;have step:∀(done rest:b_) (om:D) (tl:b_),xs=done++rest->rest++bK!=om::tl->∀R',R' (.nx [some a6_,some J_,some .non]) M->
   Cg rK_ rL_ (rest.length+1) [some a6_,some (.lst done),some om] M R':=by
  intro done rest
  induction rest generalizing done with
  |nil=>
   intro om tl e1 e2 R' gq;simp at e1 e2;obtain⟨rfl,_⟩:=e2;subst e1;simpa[Cg,Di,fT,f2,Aa,fC,Ap,Ci]using gq
  |cons y rest ih=>
   intro om tl e1 e2 R' gq;obtain⟨rfl,rfl⟩:=e2;have hy:y∈xs:=by rw[e1];simp
   have y0:y≠.non:=λz=>K.no (z▸hy);obtain⟨k,ek⟩:=gd y hy;obtain⟨nx,tl,ev⟩:∃b0 v',rest++[D.non]=b0::v':=by cases rest with|nil=>exact bz!|cons a r=>exact bz!
   have km:kget kf y=some nx:=(gB!).mpr (by
    rw[e1,Js,show D.non::(done++y::rest++bK!)=(D.non::done)++y::(rest++bK!)by simp,ev,eP];simp)
   have O:done.length<big:=by have:=congrArg List.length e1;simp at this;unfold big;omega
   have:=ih (done++[y]) nx tl (by simp[e1]) ev R' gq;rw[GS,Cg];simpa[Di,fT,f2,Aa,fC,Ap,jH y0,Ah,Rv,Dw,My,O,An,w2,wl,As,Gz,h.ob,zW,Bt,hf,ek,km]using this
 obtain⟨om,tl,ev⟩:∃b0 v',xs++[D.non]=b0::v':=by cases xs with|nil=>exact bz!|cons a r=>exact bz!
 have km:kget kf .non=some om:=(gB!).mpr (by rw[Js,ev];simp[Jm]);refine m_;simp only[Nq,Ah,Rv];simp[Dw,Jv,Ag,An,w2,wl,As,Gz,Aa,fC,h.ob,zW,Bt,hf,km,Dm,Fo];refine⟨i_+1,step [] xs om tl rfl ev _ ?_⟩;simpa[Bf,wl,Aa]using hR
abbrev root:D:=.str "root"
abbrev Bo:D:=.str "bin"
def b1o:root≠Bo:=by intro z;simp only[D.str.injEq]at z;exact absurd z n_
def Hv(x:D):Prop:=∃a b,x=.tup u0_
def Pg(x:D):Prop:=∃a b c,x=.tup u1!
def Hv.key(h:Hv x):∃k,Dm x=some k:=by obtain⟨a,b,rfl⟩:=h;exact H_
def Pg.key(h:Pg x):∃k,Dm x=some k:=by obtain⟨a,b,c,rfl⟩:=h;exact H_
def Hv.nn(h:Hv x):x≠.non/\x≠root/\x≠Bo:=by obtain⟨a,b,rfl⟩:=h;refine⟨?_,?_,?_⟩<;>(intro z;cases z)
def Pg.nn(h:Pg x):x≠.non:=by obtain⟨a,b,c,rfl⟩:=h;intro z;cases z
structure OW where
 rows:List ay_
 its:List D
 txt:D->List dV!
 num:D->List D
open Classical in
nonrec def chl(rows:g!)(x:D):List D:=(rows.filter λq=>q.2=x).map b!
open Classical in
nonrec def wo(rows:g!)(i:D):List ay_:=rows.filter λq=>q.1≠i
inductive Wn(rows:g!)(i:D):D->Prop
 |here:Wn rows i i
 |up {x p:D}:a7!∈rows->Wn rows i p->Wn rows i x
def Oz(rows:g!)(i p s:D)(rows':g!):Prop:=∃u v,wo rows i=u++v/\rows'=u++bA!::v/\((s∉chl cA! p/\chl u p=[])\/∃u',u=u'++[cA_])
def Ff(W:OW)(x:D):Prop:=x∈W.its\/x=root\/x=Bo
structure Bx(W:OW):Prop where
 nd:np_
 nm:∀x∈W.its,Hv x
 rnd:(W.rows.map b!).Nodup
 ri:∀x,x∈W.rows.map b!↔x∈W.its
 rp:∀i p,bA!∈W.rows->Ff W p
 rk:∃rk:D->Nat,∀i p,bA!∈W.rows->rk p<rk i
 snd:∀x∈W.its,(nq!).Nodup
 sg:∀x∈W.its,∀q∈W.txt x,Pg q.1
 su:∀x∈W.its,∀y∈W.its,∀q∈W.txt x,∀q'∈W.txt y,q.1=q'.1->x=y
 nl:∀x∈W.its,(e2!).length=4
section
open Classical
def jT{q:D×D}:q∈wo rows i↔q∈rows/\q.1≠i:=by unfold wo;rw[JP];simp
def cE:c∈chl rows x↔db_∈rows:=by
 unfold chl;rw[HB];show"!O"
 .rintro⟨⟨a,b⟩,h,rfl⟩;rw[JP]at h;have:=h.2;simp at this;rw[<-this];exact h.1
 .intro h;exact⟨db_,JP.mpr ⟨h,H!⟩,rfl⟩
def dZ:chl bi! x=chl u x++chl v x:=by unfold chl;rw[QC,HM]
def iY:chl (bA!::v) p=i::chl v p:=by unfold chl;rw[IT c_];rfl
def tI(h:p≠x):chl (bA!::v) x=chl v x:=by unfold chl;rw[IU jX_]
def a4c{rows:g!}:(dW!).Sublist kk!:=by unfold chl;exact(NN).map _
def jJ{rows:g!}:((cA!).map b!).Sublist kk!:=by unfold wo;exact(NN).map _
def Oz.chl_same{rows:g!}(h:gC_)(nd:cJ!):chl rows' p=Pc i s (chl cA! p):=by
 obtain⟨u,v,e,rfl,hc⟩:=h;rw[dZ,iY];have bf:((bi!).map b!).Nodup:=by rw[<-e];exact nd.sublist jJ
 obtain⟨B,Y⟩|⟨u',rfl⟩:=hc
 .unfold Pc;rw[GL B,e,dZ,Y];rfl
 .rw[e];have hs:s∈chl u3! p:=cE.mpr c_;unfold Pc;have Y:chl (u'++[cA_]) p=chl u' p++[s]:=by rw[dZ,iY];rfl
  have h3:chl u3! p=chl u' p++s::chl v p:=by rw[dZ,Y];simp
  rw[GU hs,Y,h3];have hu:s∉chl u' p:=λz=>by
   have:=cE.mp z;simp only[HM,GM,LN,IY]at bf;rw[HU]at bf;exact bf.2.2 _ u3_ s c_ rfl
  rw[kD hu];simp
def Oz.chl_ne(h:gC_)(L:p≠x):chl rows' x=chl cA! x:=by obtain⟨u,v,e,rfl,hc⟩:=h;rw[dZ,tI L,e,dZ]
def Oz.mem(h:gC_){q:D×D}:q∈rows'↔q=bA!\/q∈wo rows i:=by
 obtain⟨u,v,e,rfl,hc⟩:=h;rw[e];simp only[GT,GJ];show"!O"
 .rintro(z|z|z)<;>simp[z]
 .rintro(z|z|z)<;>simp[z]
def Oz.nd{rows rows':g!}(h:gC_)(nd:cJ!):(rows'.map b!).Nodup:=by
 obtain⟨u,v,e,rfl,hc⟩:=h;have bf:((bi!).map b!).Nodup:=by rw[<-e];exact nd.sublist jJ
 have ni:i∉(bi!).map b!:=λz=>by
  obtain⟨q,hq,hi⟩:=HB.mp z;rw[<-e]at hq;exact(nr!).2 hi
 simp only[HM,GM]at bf ni ⊢;rw[HU]at bf ⊢;rw[GT,NB]at ni;refine⟨bf.1,HA.mpr ⟨ni.2,bf.2.1⟩,uL_⟩;obtain rfl|O:=GJ.mp O
 .exact λz=>ni.1 ja_
 .exact uN_
def a0c(h:(i,x)∉rows):chl cA! x=chl rows x:=by unfold chl wo;rw[MQ];congr 1;apply LA;intro q hq;simp only[ne_eq,decide_not,Bool.and_eq_left_iff_imp,HQ,NE,JY,JX];rintro rfl z;exact h u5!
def b0y{rows:g!}(nd:cJ!)(h:(i,x)∈rows):∃u v,chl rows x=u++i::v/\chl cA! x=u++v:=by
 obtain⟨a,b,e,_⟩:=mB h;have n1:i∉(a++b).map b!:=by
  rw[e]at nd;simp only[HM,GM]at nd ⊢;rw[HU,HA]at nd;rw[GT,NB];exact⟨λz=>nd.2.2 _ z i c_ rfl,nd.2.1.1⟩
 have e2:wo rows i=a++b:=by
  unfold wo;rw[e,QC,IU c_];have keep:∀l:List ay_,i∉l.map b!->l.filter (λq=>decide (q.1≠i))=l:=λl hl=>JI.mpr λq hq=>by
   show"!t";exact λz=>hl jl!
  rw[HM,GT,NB]at n1;rw[keep a n1.1,keep b n1.2]
 refine⟨chl a x,chl b x,?_,?_⟩
 .rw[e,dZ,iY]
 .rw[e2,dZ]
def uO{rows:g!}(nd:cJ!)(h:a7!∈rows)(L:x≠i):Wn rows i x↔Wn rows i p:=by
 show"!O"
 .intro z;cases z with
  |here=>exact absurd rfl L
  |up Y z=>rw[iH nd h Y];exact z
 .exact λz=>.up h z
def b6a(h:∀p,a7!∉rows)(L:x≠i):¬Wn rows i x:=λz=>by
 cases z with
 |here=>exact L rfl
 |up Y _=>exact h _ Y
def Oz.winv{W:OW}(h:Oz W.rows i p s rows')(w:Bx W)(hi:gD!)(hp:Ff W p)(hw:¬Wn W.rows i p):Bx {W with rows:=rows'}:=by
 refine⟨w.nd,w.nm,h.nd w.rnd,jl_,jm!,?_,w.snd,w.sg,w.su,w.nl⟩
 .show x∈rows'.map b!↔x∈W.its;rw[<-w.ri x];show"!O"
  .intro z;obtain⟨q,hq,rfl⟩:=HB.mp z;obtain rfl|hq:=h.mem.mp hq
   .exact(w.ri i).mpr hi
   .exact GP (nr!).1
  .intro z;by_cases L:x=i
   .subst L;exact HB.mpr u6_
   .obtain⟨q,hq,rfl⟩:=HB.mp z;exact GP (h.mem.mpr (.inr (jT.mpr ⟨hq,L⟩)))
 .show Ff W b;obtain z|z:=h.mem.mp hm
  .cases z;exact hp
  .exact w.rp _ _ (jT.mp z).1
 .obtain⟨rk,gr⟩:=w.rk;refine⟨λx=>if Wn W.rows i x then rk x+rk p+1 else rk x,jm!⟩;obtain z|z:=h.mem.mp hm
  .cases z;show"#<";rw[GL hw,GU .here];omega
  .obtain⟨z1,z2⟩:=jT.mp z;have:=gr _ _ z1;have q:=uO w.rnd z1 z2;show"#<";by_cases c:Wn W.rows i a
   .rw[GU c,GU (q.mp c)];omega
   .rw[GL c,GL (λz=>c (q.mpr z))];exact this
def Fh(W:OW)(n:D)(rows':g!):OW:=⟨rows',W.its++[n],λx=>if x=n then[]else W.txt x,λx=>if x=n then[.int 0,.int 0,.int 0,.int 0]else W.num x⟩
def Oz.winv_put{W:OW}(h:Oz W.rows n p s rows')(w:Bx W)(hn:nt_)(ht:Hv n)(hp:Ff W p):Bx a7_:=by
 have nn:n∉W.rows.map b!:=λz=>hn ((w.ri n).mp z);have jr:wo W.rows n=W.rows:=by
  refine JI.mpr λq hq=>?_;show"!t";exact λz=>nn jl!
 have pn:p≠n:=λz=>by
  obtain q|q|q:=hp
  .exact hn (z▸q)
  .exact ht.nn.2.1 (z▸q)
  .exact ht.nn.2.2 (z▸q)
 have im:∀x,x∈(a7_).its↔x∈W.its\/x=n:=λx=>by simp[Fh]
 refine⟨?_,aT_,h.nd w.rnd,jl_,jm!,?_,aT_,aT_,jn_,aT_⟩
 .show(W.its++[n]).Nodup;rw[HU];exact⟨w.nd,H!,λa ha b O=>by simp at O;subst O;exact λz=>hn ja_⟩
 .obtain z|rfl:=(cB!).mp L
  .exact w.nm x z
  .exact ht
 .rw[im,<-w.ri x];show"!O"
  .intro z;obtain⟨q,hq,rfl⟩:=HB.mp z;obtain rfl|hq:=h.mem.mp hq
   .exact .inr rfl
   .rw[jr]at hq;exact .inl (GP hq)
  .rintro(z|rfl)
   .obtain⟨q,hq,rfl⟩:=HB.mp z;exact GP (h.mem.mpr (.inr (by rw[jr];exact hq)))
   .exact HB.mpr u6_
 .have up:∀y,Ff W y->Ff a7_ y:=λy hy=>by
   obtain q|q:=hy
   .exact .inl ((im y).mpr (.inl q))
   .exact .inr q
  obtain z|z:=h.mem.mp hm
  .cases z;exact up _ hp
  .rw[jr]at z;exact up _ (w.rp _ _ z)
 .obtain⟨rk,gr⟩:=w.rk;refine⟨λx=>if x=n then rk p+1 else rk x,jm!⟩;obtain z|z:=h.mem.mp hm
  .cases z;show"#<";rw[GL pn,l!];omega
  .rw[jr]at z;have ha:a≠n:=λq=>nn (q▸GP (f:=b!) z);have O:b≠n:=λq=>by
    obtain y|y|y:=w.rp _ _ z
    .exact hn (q▸y)
    .exact ht.nn.2.1 (q▸y)
    .exact ht.nn.2.2 (q▸y)
   show"#<";rw[GL ha,GL O];exact gr _ _ z
 .show((nu!).map b!).Nodup;split
  .simp
  .rename_i q;exact w.snd x nv!
 .show∀q∈nu!,Pg q.1;split
  .intro q hq;cases hq
  .rename_i q;exact w.sg x nv!
 .show∀q∈nu!,∀q'∈(if y=n then[]else W.txt y),q.1=q'.1->x=y;split
  .intro q hq;cases hq
  .rename_i q1;split
   .intro q hq q' a8;cases a8
   .rename_i q2;exact w.su x ((nu_).resolve_right q1) y (((im y).mp hy).resolve_right q2)
 .show(vc_).length=4;split
  .rfl
  .rename_i q;exact w.nl x nv!
def Wr(b:D)(nw:ac!):List dV!->List dV!
 |[]=>[]
 |x::r=>if x.1=b then x::(nw++r)else x::Wr b nw r
nonrec def wrT(b:D)(nw l:ac!):List dV!:=if b∈l.map b! then Wr b nw l else nw++l
def wU{u:ac!}{q:e4!}(hq:q.1=b):b∉u.map b!->Wr b nw (u++q::v)=u++q::(nw++v):=by
 induction u with
 |nil=>intro _;simp[Wr,hq]
 |cons x u ih=>
  intro h;rw[GM,GJ,NB]at h;simp only[MD,Wr];rw[kN!,ih h.2]
def qJ(b:D)(nw l:ac!):∃u v,l=u++v/\wrT b nw l=u++nw++v/\((u=[]/\b∉l.map b!)\/∃u' q,u=u'++[q]/\q.1=b/\b∉u'.map b!):=by
 by_cases h:b∈l.map b!
 .obtain⟨u,v,e,hu⟩:=mB h;obtain⟨u',r,e1,e2,e3⟩:=List.map_eq_append_iff.mp e;obtain⟨q,v',e4,e5,e6⟩:=List.map_eq_cons_iff.mp e3;subst e4;refine⟨u'++[q],v',by simp[e1],?_,.inr ⟨u',q,rfl,e5,by rw[e2];exact hu⟩⟩;unfold wrT;rw[GU h,e1,wU e5 (by rw[e2];exact hu)];simp
 .exact⟨[],l,rfl,by unfold wrT;rw[GL h];rfl,.inl b8_⟩
nonrec def setT(W:OW)(a:D)(l:ac!):OW:={W with txt:=λx=>if x=a then l else W.txt x}
def qM{W:OW}{l:ac!}(w:Bx W)(ha:dX!)(B:(ei_).Nodup)(Y:∀q∈l,Pg q.1)(h3:∀q∈l,∀y∈W.its,∀q'∈W.txt y,q.1=q'.1->y=a):Bx ny!:=by
 refine⟨w.nd,w.nm,w.rnd,w.ri,w.rp,w.rk,aT_,aT_,jn_,w.nl⟩
 .show((nw!).map b!).Nodup;split
  .exact B
  .exact w.snd x L
 .show∀q∈nw!,Pg q.1;split
  .exact Y
  .exact w.sg x L
 .show∀q∈nw!,∀q'∈(if y=a then l else W.txt y),q.1=q'.1->x=y;split
  .rename_i e1;subst e1;split
   .rename_i e2;intro _ _ _ _ _;exact e2.symm
   .intro q hq q' a8 e;exact(h3 q hq y hy q' a8 e).symm
  .split
   .rename_i e2;subst e2;intro q hq q' a8 e;exact h3 q' a8 x L q hq e.symm
   .exact w.su x L y hy
def Ry(W:OW)(a:D)(l:b_):OW:={W with num:=λx=>if x=a then l else W.num x}
def b4e{l:b_}(w:Bx W)(hl:O!=4):Bx (Ry W a l):=by
 refine⟨w.nd,w.nm,w.rnd,w.ri,w.rp,w.rk,w.snd,w.sg,w.su,aT_⟩;show(if x=a then l else W.num x).length=4;split
 .exact hl
 .exact w.nl x L
end
nonrec def oF(a1 a2 a3 a4 a5 a6:xh!):List cf_:=[("parents",.fn a1),("rows",.fn a2),("texts",.fn a3),("numbers",.fn a4),("written",.fn a5),("hidden",.fn a6)]
section
variable{a1 a2 a3 a4 a5 a6:xh!}
def oF1:List.lookup dX_ Y!=some (D.fn a1):=by kernel_rfl
def oF2:List.lookup de! Y!=some (D.fn a2):=by kernel_rfl
def oF3:List.lookup dY! Y!=some (D.fn a3):=by kernel_rfl
def oF4:List.lookup e4_ Y!=some (D.fn a4):=by kernel_rfl
def oF5:List.lookup ny_ Y!=some (D.fn a5):=by kernel_rfl
def oF6:List.lookup ve_ Y!=some (D.fn a6):=by kernel_rfl
def oM1:List.lookup (Str.ofString "has") Y!=none:=by kernel_rfl
def oM2:List.lookup (Str.ofString "has_item") Y!=none:=by kernel_rfl
def oM3:List.lookup (Str.ofString "is_within") Y!=none:=by kernel_rfl
def oM4:List.lookup (Str.ofString "put") Y!=none:=by kernel_rfl
def oM5:List.lookup (Str.ofString "can_move") Y!=none:=by kernel_rfl
def oM6:List.lookup (Str.ofString "move") Y!=none:=by kernel_rfl
def oM7:List.lookup (Str.ofString "write") Y!=none:=by kernel_rfl
def oM8:List.lookup (Str.ofString "cut") Y!=none:=by kernel_rfl
def oM9:List.lookup (Str.ofString "set_number") Y!=none:=by kernel_rfl
def d2j:List.lookup (Str.ofString "children_of") Y!=none:=by kernel_rfl
def d2i:List.lookup (Str.ofString "signs_of") Y!=none:=by kernel_rfl
def d2h:List.lookup (Str.ofString "text_of") Y!=none:=by kernel_rfl
def d2g:List.lookup (Str.ofString "numbers_of") Y!=none:=by kernel_rfl
end
def rM:List.lookup (Str.ofString "put_behind") jp!=none/\List.lookup (Str.ofString "take_out") jp!=none/\List.lookup (Str.ofString "listed") jp!=none/\List.lookup (Str.ofString "holds") jp!=none:=⟨jq_,jq_,jq_,jq_⟩
inductive Od
 |ob|par|rows|texts|nums|writ|hid|rO (x:D)|rF (x:D)|rP (x:D)|tO (x:D)|tF (x:D)|tP (x:D)|nm (x:D)|oth
structure Ri(t:Aw)(M:Mh)(o:xh!)(rl:bM!)(W:OW)(hb:Nat)(a1 a2 a3 a4 a5 a6:xh!)(k1 k2 k3 k4 k5 k6:g!):Prop where
 ob:M o=some vf!
 d1:∃e,M a1=some (.dct k1 e)
 d2:∃e,M a2=some (.dct k2 e)
 d3:∃e,M a3=some (.dct k3 e)
 d4:∃e,M a4=some (.dct k4 e)
 d5:∃e,M a5=some (.dct k5 e)
 d6:∃e,M a6=some (.dct k6 e)
 ro:rl o=.ob
 r1:rl a1=.par
 r2:rl a2=.rows
 r3:rl a3=.texts
 r4:rl a4=.nums
 r5:rl a5=.writ
 r6:rl a6=.hid
 p0:kget k1 root=some .non/\kget k1 Bo=some .non
 pr:∀i p,bA!∈W.rows->kget k1 i=some p
 row:∀x,Ff W x->∃r f p,kget k2 x=some a6_/\El t M r f p bj!/\rl r=.rO x/\rl f=.rF x/\rl p=.rP x
 rown:∀x,¬Ff W x->kget k2 x=none
 txt:∀x,x∈W.its->∃r f p,kget k3 x=some a6_/\El t M r f p nq!/\rl r=.tO x/\rl f=.tF x/\rl p=.tP x
 txtn:∀x,x∉W.its->kget k3 x=none
 num:∀x,x∈W.its->∃q,kget k4 x=some bj_/\M q=some (.lst e2!)/\rl q=.nm x
 wr:∀x∈W.its,∀q∈W.txt x,kget k5 q.1=some q.2.1
 hi:∀x∈W.its,∀q∈W.txt x,(kget k6 q.1).isSome=!q.2.2
 hk:∀s,kget k6 s≠none->∃x,x∈W.its/\s∈(aE_).map b!
 l1:nz_<=hb
 l2:k2.length<=hb
 l3:k3.length<=hb
 l4:k4.length<=hb
 l5:k5.length<=hb
 l6:k6.length<=hb
 lr:aw!<=hb
 lt:∀x∈W.its,(aE_).length<=hb
 live:∀b,rl b≠.oth->M b≠none
def Cc(t:Aw)(M:Mh)(o:xh!)(rl:bM!)(W:OW)(hb:Nat):Prop:=∃a1 a2 a3 a4 a5 a6 k1 k2 k3 k4 k5 k6,Ri t M o rl W hb a1 a2 a3 a4 a5 a6 k1 k2 k3 k4 k5 k6
def Fr(M:Mh)(rl:bM!)(M':Mh)(af:bM!):Prop:=∀b,M b≠none->rl b=.oth->M' b=M b/\af b=.oth
def Fr.refl{M:Mh}{rl:bM!}:Fr M rl M rl:=λb _ h=>b8_
def Fr.trans{M M1 M2:Mh}{rl gf t9:bM!}(B:Fr M rl M1 gf)(Y:Fr M1 gf M2 t9):Fr M rl M2 t9:=λb O hr=>by
 show"!r"
section
variable{t:Aw}{M:Mh}{o:xh!}{rl:Addr->Od}{W:OW}{hb:Nat}{R:D->Mh->Prop}
def pT{W:OW}(w:Bx W)(h:df!):∃k,Dm x=some k:=by
 obtain h|rfl|rfl:=h
 .exact(w.nm x h).key
 .exact H_
 .exact H_
def uM{W:OW}(w:Bx W):∀c∈chl W.rows x,∃k,Dm c=some k:=λc hc=>by
 have:=cE.mp hc;exact(w.nm c ((w.ri c).mp u3_)).key
def uL{W:OW}:(bj!).length<=aw!:=by have:=(a4c (rows:=W.rows) (x:=x)).length_le;simpa using this
def b1f{W:OW}(w:Bx W)(L:b9!):∀c∈(aE_).map b!,∃k,Dm c=some k:=λc hc=>by
 obtain⟨q,hq,rfl⟩:=HB.mp hc;exact(vg_).key
def Ri.noOb{a1 a2 a3 a4 a5 a6:xh!}{k3:g!}(h:gF!)(hm:(Y!).lookup m=none):De t.B4 m M aw_:=by simp[De,h.ob,hm]
def b0l(h:aF!)(hk:fs_)(hR:R (.bl (open Classical in decide (Ff W x))) M):Cw t e5_ M R:=by
 obtain⟨a1,a2,a3,a4,a5,a6,k1,k2,k3,k4,k5,k6,h⟩:=h;obtain⟨e2,Y⟩:=h.d2;refine m_;have e3:(kget k2 x).isSome=(open Classical in decide (Ff W x)):=by
  by_cases z:Ff W x
  .obtain⟨r,f,p,e,_⟩:=h.row x z;rw[e];simp[z]
  .rw[h.rown x z];simp[z]
 rw[<-e3]at hR;simpa[Mr,Bf,w2,wl,As,Gz,Dw,Aa,h.ob,oF2,Ir,Y,hk]using hR
def iP(h:aF!)(hk:fs_)(hR:R (.bl (open Classical in decide gF_)) M):Ct t e5_ M R:=by
 obtain⟨a1,a2,a3,a4,a5,a6,k1,k2,k3,k4,k5,k6,h⟩:=h;obtain⟨e2,Y⟩:=h.d3;refine m_;have e3:(kget k3 x).isSome=(open Classical in decide gF_):=by
  by_cases z:x∈W.its
  .obtain⟨r,f,p,e,_⟩:=h.txt x z;rw[e];simp[z]
  .rw[h.txtn x z];simp[z]
 rw[<-e3]at hR;simpa[Ii,Bf,w2,wl,As,Gz,Dw,Aa,h.ob,oF3,Ir,Y,hk]using hR
def xG(h:aF!)(w:Bx W)(hB:hb<4000)(L:df!)(hR:vh!):Dp t e5_ M R:=by obtain⟨a1,a2,a3,a4,a5,a6,k1,k2,k3,k4,k5,k6,h⟩:=h;obtain⟨e2,Y⟩:=h.d2;obtain⟨k,hk⟩:=pT w L;obtain⟨r,f,p,e,hr,_⟩:=h.row x L;refine m_;simp[Gp,Bf,w2,wl,As,Gz,Dw,Aa,h.ob,oF2,Bt,Y,hk,e,Bb,Af,De,hr.ob,rM];exact zM hr (by have:=uL (W:=W) (x:=x);have:=h.lr;omega) (uM w) hR
def xX(h:aF!)(w:Bx W)(L:b9!)(hR:R (.lst e2!) M):Cz t e5_ M R:=by
 obtain⟨a1,a2,a3,a4,a5,a6,k1,k2,k3,k4,k5,k6,h⟩:=h;obtain⟨e4,h4⟩:=h.d4;obtain⟨k,hk⟩:=(w.nm x L).key;obtain⟨q,e,hq,_⟩:=h.num x L;have hl:(e2!).length<=big:=by rw[w.nl x L];decide
 refine m_;simpa[Hf,Bf,w1,Ab,Af,w2,wl,As,Gz,Dw,Aa,h.ob,oF4,Bt,h4,hk,e,Vg,Qi,hq,hl]using hR
end
def zX:∀(xs ys:D!),Iu (xs.map D.int) (ys.map D.int)=(xs==ys)
 |[],[]=>by simp[Iu]
 |[],y::ys=>by simp[Iu]
 |x::xs,[]=>by simp[Iu]
 |x::xs,y::ys=>by simp[Iu,Eo,zX xs ys]
def Sd(d:D):Prop:=d=.non\/(∃x,d=.str x)\/(∃i,d=.int i)\/∃ns:List Int,d=.tup jf_
def a7c:∀{xs ys:D!},xs.map D.int=ys.map D.int->xs=ys
 |[],[],_=>rfl
 |[],_::_,h=>by simp at h
 |_::_,[],h=>by simp at h
 |x::xs,y::ys,h=>by
  simp only[GM,QX,D.int.injEq]at h;rw[h.1,a7c h.2]
def lT(L:Sd x)(hy:Sd y):Eo x y=(open Classical in decide (x=y)):=by
 obtain rfl|⟨a,rfl⟩|⟨i,rfl⟩|⟨ns,rfl⟩:=L<;>obtain rfl|⟨b,rfl⟩|⟨j,rfl⟩|⟨ms,rfl⟩:=hy<;>simp[Eo,zX]
 all_goals
  rw[KI]
  first
   |(simp only[LU,HQ,D.tup.injEq];exact⟨λz=>by rw[z],a7c⟩)
   |(simp only[LU,HQ])
   |simp
def zH:∀(ns:D!),Bu oQ_=true
 |[]=>by simp[Bu]
 |n::ns=>by simp[Bu,Be,zH ns]
def eQ(h:Sd x):Be x=true:=by obtain rfl|⟨a,rfl⟩|⟨i,rfl⟩|⟨ns,rfl⟩:=h<;>simp[Be,zH]
def a7s:∀(ns:D!),Dz oQ_<=1
 |[]=>by simp[Dz]
 |n::ns=>by have:=a7s ns;simp[Dz,Hn];omega
def oH(h:Sd x):Hn x<=5:=by
 obtain rfl|⟨a,rfl⟩|⟨i,rfl⟩|⟨ns,rfl⟩:=h<;>simp[Hn]
 have:=a7s ns;omega
def Hv.sd(h:Hv x):Sd x:=by obtain⟨a,b,rfl⟩:=h;exact .inr nB!
def Pg.sd(h:Pg x):Sd x:=by obtain⟨a,b,c,rfl⟩:=h;exact .inr vi!
def hJ(x:Str):Sd dE!:=.inr (.inl ⟨x,rfl⟩)
def a3j{W:OW}(w:Bx W)(h:df!):Sd x:=by
 obtain h|rfl|rfl:=h
 .exact(w.nm x h).sd
 .exact hJ _
 .exact hJ _
def a1w(L:Sd x)(hy:Sd y):Eb x y=some (.bl (!(open Classical in decide (x=y)))):=by unfold Eb;have:=oH L;rw[eQ L,eQ hy,lT L hy];rw[GU bd_]
def pZ(L:Sd x)(hy:Sd y):Bc x y=some (.bl (open Classical in decide (x=y))):=by unfold Bc;have:=oH L;rw[eQ L,eQ hy,lT L hy];rw[GU bd_]
section
variable{t:Aw}{M:Mh}{o:xh!}{rl:Addr->Od}{W:OW}{hb:Nat}{R:D->Mh->Prop}
def El.keep{M':Mh}(h:dU!)(e1:M' r=M r)(e2:M' f=M f)(e3:M' p=M p):El t M' r f p xs:=by obtain⟨kf,ef,kp,ep,hf,hp,K⟩:=h.dc;exact⟨e1.trans h.ob,⟨kf,ef,kp,ep,e2.trans hf,e3.trans hp,K⟩,h.ne⟩
def El.live(h:dU!):M r≠none/\M f≠none/\M p≠none:=by obtain⟨kf,ef,kp,ep,hf,hp,K⟩:=h.dc;exact⟨by rw[h.ob];simp,by rw[hf];simp,by rw[hp];simp⟩
def pE{ρ:Ad}(hR:∀r f p M',M r=none->M f=none->M p=none->r≠f->r≠p->El t M' r f p []->(∀b,b≠r->b≠f->b≠p->M' b=M b)->R a6_ M'):Hs t.B5 1 (Hj t) Af ρ M R:=by
 refine⟨rfl,λr hr=>m_⟩;have nf:∀{f:xh!},Ay M r (.obj t.B5 []) f=none->f≠r/\M f=none:=λ{f} z=>by
  by_cases e:f=r
  .rw[e,mup_same]at z;cases z
  .rw[mup_ne e]at z;exact⟨e,z⟩
 intro f hf;obtain⟨f1,f2⟩:=nf hf;refine⟨mup_same,W!,by simp[Dm],H!,?_⟩;simp[wl,Aa,mup_ne,mup_same,GN f1,Bl];intro p hp;have p1:p≠r:=λe=>by rw[e,mup_same]at hp;cases hp
 rw[nB_]at hp;have p2:p≠f:=λe=>by rw[e,mup_same]at hp;cases hp
 rw[mup_ne p2,mup_ne p2,nB_]at hp;simp[Em,Ng,wl,fC,Aa,mup_ne,mup_same,GN f1,GN p1,Bl,Dm];have b9:¬(Str.ofString "following"=Str.ofString "preceding"):=by decide+kernel
 refine hR r f p _ hr f2 hp (GN f1) (GN p1) ⟨mup_same,⟨i9!,1,i9!,1,?_,?_,b7a⟩,GN p2⟩ λb B Y h3=>?_
 .rw[mup_ne f1,vk_,vk_,mup_ne f1,mup_same]
 .rw[nB_,mup_same]
 .rw[ca!,nC!,nC!,ca!,cB_,cB_,ca!]
def a9b{W:OW}(w:Bx W)(h:b9!):∃p,a7!∈W.rows:=by obtain⟨⟨a,p⟩,hq,rfl⟩:=HB.mp ((w.ri x).mpr h);exact⟨p,hq⟩
def rD{W:OW}(w:Bx W)(h:x∉W.its):∀p,a7!∉W.rows:=λp z=>h ((w.ri x).mp uI_)
def b1m{W:OW}(w:Bx W):root∉W.its:=λz=>(w.nm _ z).nn.2.1 rfl
def c1m{W:OW}(w:Bx W):Bo∉W.its:=λz=>(w.nm _ z).nn.2.2 rfl
def d0j(h:Hv x\/x=root\/x=Bo):x≠.non:=by
 obtain h|rfl|rfl:=h
 .exact h.nn.1
 .show"!c"
 .show"!c"
def c8j{W:OW}(w:Bx W)(h:df!):x≠.non:=d0j (h.imp_left (w.nm x))
def sE{k3:g!}(h:gF!)(w:Bx W)(hi:Hv i){rk:D->Nat}(gr:vl_):
  ∀(n:Nat) (x:D),rk x<n->Ff W x->∀(R':q!),(Wn W.rows i x->R' (.nx [A!,M!,M!]) M)->(¬Wn W.rows i x->R' (.nx [A!,some .non,M!]) M)->
   ∃m,Cg f7! f7_ m nC_ M R'
 |0,x,hn,_,_,_,_=>by omega
 |n+1,x,hn,L,R',r1,r2=>by
  obtain⟨e1,B⟩:=h.d1;have x0:=c8j w L;have ne:=a1w (a3j w L) hi.sd;by_cases e:x=i
  .subst e;have:=r1 .here;refine e6!;simpa[Cg,Di,Cy,fT,f2,Aa,fC,Ap,jH x0,ne]using this
  .have st:∀(p:D) (m:Nat),kget k1 x=some p->Cg f7! f7_ m [A!,cC!,M!] M R'->
     Cg f7! f7_ (m+1) nC_ M R':=λp m hp hw=>by
    obtain⟨k,hk⟩:=pT w L;rw[Cg];simpa[Di,Cy,fT,f2,Aa,fC,Ap,jH x0,ne,e,An,w2,wl,As,Gz,Dw,h.ob,oF1,Bt,B,hk,hp]using hw
   have top:kget k1 x=some .non->vn!->∃m,Cg f7! f7_ m nC_ M R':=λhp hr=>by
    have:=r2 (b6a hr e);refine⟨1+1,st .non 1 hp ?_⟩;simpa[Cg,Di,Cy,fT,f2,Aa,fC,Ap,Ci]using this
   obtain L|rfl|rfl:=L
   .obtain⟨p,hp⟩:=a9b w L;have q:=uO w.rnd hp e;have:=gr _ _ hp;obtain⟨m,hm⟩:=sE h w hi gr n p a! (w.rp _ _ hp) R' vn_ (λz=>r2 λy=>z (q.mp y));exact⟨m+1,st p m (h.pr _ _ hp) hm⟩
   .exact top h.p0.1 (rD w (b1m w))
   .exact top h.p0.2 (rD w (c1m w))
def a3i(h:aF!)(w:Bx W)(L:df!)(hi:Hv i)(hR:R (.bl (open Classical in decide (Wn W.rows i x))) M):Fe t [aU!,x,i] M R:=by
 obtain⟨a1,a2,a3,a4,a5,a6,k1,k2,k3,k4,k5,k6,h⟩:=h;obtain⟨rk,gr⟩:=w.rk;obtain⟨m,hm⟩:=sE h w hi gr (rk x+1) x a! L (λr M1=>match r with|.nx ai=>Bf (wl ih_) ai M1 gH!|.rt d=>R d M1)
  (λz=>by simp only[z,OF]at hR;simpa[Bf,wl,f2,Aa,fC,Ap,jH hi.nn.1]using hR)
  (λz=>by simp only[z,OU]at hR;simpa[Bf,wl,f2,Aa,fC,Ap,Ci]using hR)
 refine m_;exact⟨m,hm⟩
def a8a(h:aF!)(w:Bx W)(cn:e6_)(gd:nD_)(hR:∀b:Bool,(b=true↔dZ!)->R bI! M):Ft t [aU!,i,x] M R:=by
 have h':=h;show"!3";simp only[Ij,Bf,Mf,wT,Bb,wl,Ab,Af,Aa];simp[nE!];show"!e"
 .simp only[c1,OF,IL];refine⟨hA.noOb oM1,?_⟩;refine b0l h gd ?_;by_cases c2:Ff W x
  .simp only[c2,OF,IL,Wc,wT,Bb,wl,Ab,Af,Aa];refine⟨hA.noOb oM3,rfl,?_⟩;refine a3i h w c2 (w.nm i c1) ?_;exact hR _ (by simp[c1,c2])
  .simp only[c2,OU];exact hR _ (by simp[c2])
 .simp only[c1,OU];exact hR _ (by simp[c1])
def xO{p n:Int}(h:aF!)(w:Bx W)(cn:e6_)(p0:0<=p)(p3:p<=3)
  (hR:∀M',Cc t M' o rl (open Classical in if i∈W.its then Ry W i nE_ else W) hb->Fr M rl M' rl->R .non M'):Ex t [aU!,i,.int p,aN!] M R:=by
 have h':=h;show"!3";simp only[He,Ax,wT,Bb,wl,Ab,Af,Aa];simp[De,hA.ob,oM2];show"!e"
 .simp only[c1,IL]at hR;obtain⟨e4,h4⟩:=hA.d4;obtain⟨q,e,hq,ju⟩:=hA.num i c1;have L:Eg (js_).length p=some p.toNat:=by
   rw[w.nl i c1];unfold Eg;rw[GU p0,aX_]
  have ar:∀b,rl b≠.nm i->Ay M q (.lst nE_) b=M b:=λb O=>mup_ne λz=>O vq_;have fin:R .non (Ay M q (.lst nE_)):=by
   refine hR _ ⟨a1,a2,a3,a4,a5,a6,k1,k2,k3,k4,k5,k6,?_⟩ λb O hr=>AX_;refine{hA with ob:=?_,d1:=?_,d2:=?_,d3:=?_,d4:=?_,d5:=?_,d6:=?_,row:=?_,txt:=?_,num:=?_,live:=?_}
   .rw[ar o N_];exact hA.ob
   .rw[ar a1 bM_];exact hA.d1
   .rw[ar a2 ax!];exact hA.d2
   .rw[ar a3 aU_];exact hA.d3
   .rw[ar a4 aV!];exact hA.d4
   .rw[ar a5 aN_];exact hA.d5
   .rw[ar a6 ax_];exact hA.d6
   .show"!s"
   .intro x L;obtain⟨r,f,p',g1,g2,g3,g4,g5⟩:=hA.txt x L;exact nF_
   .intro x L;by_cases c:x=i
    .subst c;refine⟨q,e,?_,ju⟩;rw[mup_same];simp[Ry]
    .obtain⟨q',g1,g2,g3⟩:=hA.num x L;refine⟨q',g1,?_,g3⟩;rw[ar q' (by rw[g3];simpa using c),g2];simp[Ry,c]
   .intro b O;by_cases c:b=q
    .rw[c,mup_same];simp
    .rw[mup_ne c];show"#,"
  simpa[c1,By,w2,wl,As,Gz,Dw,Aa,hA.ob,oF4,Bt,h4,cn,e,Kn,hq,L]using fin
 .simp only[c1,IB]at hR;have:=hR M h .refl;simpa[c1,Ch]using this
end
end K26
namespace K26
open PySem L2 DL
open Classical
section
variable{t:Aw}{M:Mh}{o:xh!}{rl:Addr->Od}{W:OW}{hb:Nat}{R:D->Mh->Prop}
def Cc.mono{B':Nat}(h:aF!)(O:hb<=B'):Cc t M o rl W B':=by obtain⟨a1,a2,a3,a4,a5,a6,k1,k2,k3,k4,k5,k6,hA⟩:=h;exact⟨a1,a2,a3,a4,a5,a6,k1,k2,k3,k4,k5,k6,{hA with l1:=HR hA.l1 O,l2:=HR hA.l2 O,l3:=HR hA.l3 O,l4:=HR hA.l4 O,l5:=HR hA.l5 O,l6:=HR hA.l6 O,lr:=HR hA.lr O,lt:=λx L=>HR ju! O}⟩
def qO(i:D):setT W i bk!=W:=by
 unfold setT;cases W with
 |mk a b c d=>
  congr 1;funext x;split
  .rename_i e;rw[e]
  .rfl
open Classical in
nonrec def cutT(cv:b_)(l:ac!):List dV!:=l.map λq=>nG!
def c1c(l:ac!):cutT [] l=l:=by unfold cutT;simp
def oI(g:b_)(l:ac!):(cutT g l).map b!=l.map b!:=by unfold cutT;simp
def a7w(g:b_)(s:D)(l:ac!):cutT [s] (cutT g l)=cutT (g++[s]) l:=by unfold cutT;rw[II];apply IQ;intro q _;simp only[Function.comp,GT];congr 2;rw[Bool.and_assoc];congr 1;by_cases B:q.1∈g<;>by_cases Y:q.1∈[s]<;>simp[B,Y]
def c5a{l:ac!}(h:s∉l.map b!):cutT [s] l=l:=by
 conv=>rhs;rw[<-List.map_id l]
 apply IQ;intro q hq;have:q.1≠s:=λz=>h jl!;simp[this]
def a0a(w:Bx W)(hi:gD!)(g:b_):Bx nG_:=by
 refine qM w hi (by rw[oI];exact w.snd i hi) dg! nH!
 .show"!:";exact w.sg i hi q0 h0
 .show"!:";exact(w.su i hi y hy q0 h0 q' a8 e).symm
def qN(i:D)(l l':ac!):setT (setT W i l) i l'=setT W i l':=by unfold setT;congr 1;funext x;dsimp only;split<;>rfl
def a0r(i:D)(l:ac!):(setT W i l).txt i=l:=by simp[setT]
def c4f{ks:MK}{k3:g!}{e6:Nat}(hA:gF!)(w:Bx W)(hi:gD!)(hs:s∈(bk!).map b!):
  Ri t (Ay M a6 nI!) o rl nI_ e7_ a1 a2 a3 a4 a5 a6 k1 k2 k3 k4 k5 nH_/\Fr M rl (Ay M a6 nI!) rl:=by
 have ar:∀b,rl b≠.hid->Ay M a6 nI! b=M b:=λb O=>mup_ne λz=>O (by rw[z];exact hA.r6);refine⟨?_,λb O hr=>AX_⟩;have up:∀{x:Nat},x<=hb->x<=hb+1:=λh=>Nat.le_succ_of_le h;refine{hA with ob:=?_,d1:=?_,d2:=?_,d3:=?_,d4:=?_,d5:=?_,d6:=ju_,row:=?_,txt:=?_,num:=?_,live:=?_,wr:=?_,hi:=?_,l1:=up hA.l1,l2:=up hA.l2,l3:=up hA.l3,l4:=up hA.l4,l5:=up hA.l5,l6:=HR dU_ (Nat.succ_le_succ hA.l6),lr:=up hA.lr,lt:=?_,hk:=?_}
 .rw[ar o N_];exact hA.ob
 .rw[ar a1 bM_];exact hA.d1
 .rw[ar a2 ax!];exact hA.d2
 .rw[ar a3 aU_];exact hA.d3
 .rw[ar a4 aV!];exact hA.d4
 .rw[ar a5 aN_];exact hA.d5
 .show"!s"
 .intro x L;obtain⟨r,f,p',g1,g2,g3,g4,g5⟩:=hA.txt x L;refine⟨r,f,p',g1,?_,g3,g4,g5⟩;have e:((nI_).txt x).map b!=(aE_).map b!:=by
   show vy!;split
   .rename_i z;rw[z,oI]
   .rfl
  rw[e];exact g2.keep (ar _ df_) (ar _ d0!) (ar _ d0_)
 .intro x L;obtain⟨q,g1,g2,g3⟩:=hA.num x L;exact⟨q,g1,(ar q df_).trans g2,g3⟩
 .show∀x∈W.its,∀q∈jv!,kget k5 q.1=some q.2.1;intro x L;split
  .intro q hq;show"!:";exact hA.wr i hi q0 h0
  .exact hA.wr x L
 .show∀x∈W.its,∀q∈jv!,(kget nH_ q.1).isSome=!q.2.2;intro x L;split
  .intro q hq;show"!:";by_cases c:q0.1=s
   .rw[c,dG];simp
   .rw[dM (GN c),hA.hi i hi q0 h0];simp[c]
  .rename_i c;intro q hq;have:s≠q.1:=λz=>by
    obtain⟨q0,h0,e0⟩:=HB.mp hs;exact c (w.su x L i hi q hq q0 h0 (by rw[<-z,e0]))
   rw[dM this];exact hA.hi x L q hq
 .intro s' bu;have nm:∀x,((nI_).txt x).map b!=(aE_).map b!:=λx=>by
   show vy!;split
   .rename_i z;rw[z,oI]
   .rfl
  by_cases c:s=s'
  .subst c;exact⟨i,hi,by rw[nm];exact hs⟩
  .rw[dM c]at bu;obtain⟨x,B,Y⟩:=hA.hk s' bu;exact⟨x,B,by rw[nm];exact Y⟩
 .show∀x∈W.its,(jv!).length<=hb+1;intro x L;split
  .rw[show(qq_).length=(bk!).length by unfold cutT;simp];exact up (hA.lt i hi)
  .exact up ju!
 .intro b O;by_cases c:b=a6
  .rw[c,mup_same];simp
  .rw[mup_ne c];show"#,"
abbrev BO(t:Aw):WS:=(Ah r1!
 r3_)
def xE{x y z m:Int}(hi:gD!)(w:Bx W):∀(js:D!) (M:Mh) (g:b_) (hb:Nat) (sy zh:ac_) (R:q!),hb+js.length<4000->Cc t M o rl nG_ hb->
  (∀M' ρ,Cc t M' o rl (setT W i (cutT (g++js.map λj=>.tup jw!) bk!)) (hb+js.length)->Fr M rl M' rl->R am_ M')->
  Fx eE_ I_ (BO t) (js.map .int) [A!,M!,some d1_,some bN!,sy,zh] M R
 |[],M,g,hb,sy,zh,R,hB,h,hR=>⟨trivial,hR M _ jX_ .refl⟩
 |j::js,M,g,hb,sy,zh,R,hB,h,hR=>by
  refine aO!;have w2:=a0a w hi g;obtain⟨ki,cn⟩:=(gK!).key;have iw:=h;obtain⟨a1,a2,a3,a4,a5,a6,k1,k2,k3,k4,k5,k6,hA⟩:=iw;obtain⟨r,f,p,g1,g2,g3,g4,g5⟩:=hA.txt i hi;obtain⟨e3,h3⟩:=hA.d3;obtain⟨e6,h6⟩:=hA.d6;have l6:k6.length<big:=by have:=hA.l6;unfold big;simp at hB;omega
  simp only[GS]at hB hR;have ua:Al jx_ (.tup [eE!])=some gK_:=by simp[Al,big]
  have ub:Bi d1_ none (some 2)=some jx_:=by simp[Bi,Da,HT.sIx]
  simp[Dw,Bs,Ah,An,wl,f2,Ep,Aa,Au,At,fC,Av,Ac,Ag,ub,ua,Ax,wT,Bb,DL.w2,As,Gz,hA.ob,oF3,Bt,h3,cn,g1,De,g2.ob,Ab,Af,rM,-List.lookup_eq_none_iff];refine a7f g2 dc! ?_;by_cases c:D.tup jw!∈((nG_).txt i).map b!
  .simp only[c,OF,IL];obtain⟨q1,q2⟩:=c4f (ks:=none) (e6:=Ge k6 gK_ e6) hA w2 hi c;rw[qN,a0r,a7w]at q1;have:=xE (z:=z) (m:=m) hi w js _ nK! e7_ (some di!) (some gK_) R a! vz_ (λM' ρ h' f'=>hR M' ρ vA! (q2.trans f'));simpa[By,wl,As,Gz,Dw,Aa,fC,hA.ob,oF6,Kn,h6,show Dm gK_=some _ from rfl,l6]using this
  .simp only[c,OU];have q1:Cc t M o rl (setT W i (cutT nK! bk!)) e7_:=by
    rw[<-a7w,c5a (by rw[a0r]at c;exact c)];exact h.mono (OH hb)
   have:=xE (z:=z) (m:=m) hi w js M nK! e7_ (some di!) (some gK_) R a! q1 (λM' ρ h' f'=>hR M' ρ vA! f');simpa[Ch]using this
def c9g{x y z m:Int}(h:aF!)(w:Bx W)(cn:e6_)(hB:gL_)(z0:0<=z)(m1:1<=m)(Y3:z+m<=16)
  (hR:∀M',Cc t M' o rl (open Classical in if i∈W.its then setT W i (cutT vB! bk!)else W) a8!->Fr M rl M' rl->R .non M'):
  Jf t [aU!,i,.tup jw_,d3!] M R:=by
 have h':=h;show"!3";simp only[Ms,Ah,Ax,Ly,wT,Bb,wl,Ab,Af,Aa];simp[nE!];show"!e"
 .simp only[c1,IL]at hR;have hr:Si dL! rZ_ [A!,M!,some d1_,some bN!,none,none]=some ((vB_).map D.int):=by
   have e1:Ai d1_ bt_=some (.int z):=rfl;have e2:(z+m - z).toNat=m.toNat:=by congr 1;omega
   have b:-1000<=z/\z<=100000/\-1000<=z+m/\z+m<=100000:=by omega
   simp[Si,f2,Aa,fC,e1,Al,b,e2,Rz,Function.comp]
  have:=xE (t:=t) (o:=o) (rl:=rl) (x:=x) (y:=y) (z:=z) (m:=m) c1 w vB_ M [] hb none none gH! bd_ (by rw[c1c,qO];exact h) (λM' ρ Y f2=>hR M' (by
   simp only[JF,II,GX,KZ]at Y;exact Y.mono a!) f2)
  simp only[c1,OF,JY,HL,IB,Ch,Dk,Kt,Dw,hr];exact this
 .simp only[c1,IB]at hR;have:=hR M (h.mono a!) .refl;simpa[c1,Pq]using this
def CW(cx:D)(U l:ac!):Prop:=(U=[]/\cx∉l.map b!)\/∃u' q,U=u'++[q]/\q.1=cx/\cx∉u'.map b!
def CW.names(h:CW cx U gM_):Pc s cx ((gM_).map b!)=(vC_).map b!:=by
 obtain⟨rfl,h⟩|⟨u',q,rfl,e,h⟩:=h
 .unfold Pc;rw[GL h];simp
 .unfold Pc;rw[GU gN!];simp only[HM,GM,LN,IY,MD,JF];rw[e,kD h]
def b5x{M1:Mh}{e5:Nat}{k3:g!}(hA:gF!)(w:Bx W)(hi:gD!)
  (hl:W.txt i=U++v)(O:CW cx U gM_)(hs:Pg s)(hf:∀x∈W.its,s∉(aE_).map b!)(g3:rl r=.tO i)(g4:rl f=.tF i)(g5:rl p=.tP i)(g1:kget k3 i=some a6_)
  (hr:El t M1 r f p (Pc s cx ((bk!).map b!)))(fr:∀b,b≠f->b≠p->M1 b=M b):
  Ri t vD_ o rl nM_ e7_ a1 a2 a3 a4 a5 a6 k1 k2 k3 k4 (Aq k5 s c) k6/\Fr M rl vD_ rl/\Bx nM_:=by
 have ar:∀b,rl b≠.writ->rl b≠.tF i->rl b≠.tP i->Ay M1 a5 nM! b=M b:=λb B Y h3=>by
  rw[mup_ne λz=>B vE!];exact fr b (λz=>Y (by rw[z];exact g4)) (λz=>h3 (by rw[z];exact g5))
 have up:∀{x:Nat},x<=hb->x<=hb+1:=λh=>Nat.le_succ_of_le h;have n5:∀b,rl b≠.writ->Ay M1 a5 nM! b=M1 b:=λb B=>mup_ne λz=>B vE!;have tx:∀x,(nM_).txt x=if x=i then U++(s,c,true)::v else W.txt x:=λx=>rfl
 have si:s∉(gM_).map b!:=by rw[<-hl];exact hf i hi
 refine⟨?_,λb cg wc=>⟨ar b nN! nN! nN!,wc⟩,?_⟩
 .refine{hA with ob:=?_,d1:=?_,d2:=?_,d3:=?_,d4:=?_,d5:=ju_,d6:=?_,row:=?_,txt:=?_,num:=?_,live:=?_,wr:=?_,hi:=?_,hk:=?_,l1:=up hA.l1,l2:=up hA.l2,l3:=up hA.l3,l4:=up hA.l4,l5:=HR dU_ (Nat.succ_le_succ hA.l5),l6:=up hA.l6,lr:=up hA.lr,lt:=?_}
  .rw[ar o N_ N_ N_];exact hA.ob
  .rw[ar a1 bM_ bM_ bM_];exact hA.d1
  .rw[ar a2 ax! ax! ax!];exact hA.d2
  .rw[ar a3 aU_ aU_ aU_];exact hA.d3
  .rw[ar a4 aV! aV! aV!];exact hA.d4
  .rw[ar a6 ax_ ax_ ax_];exact hA.d6
  .intro x L;obtain⟨r',f',p',q1,q2,q3,q4,q5⟩:=hA.row x L;exact⟨r',f',p',q1,q2.keep vE_ (ar _ gN_ gN_ gN_) (ar _ gO! gO! gO!),q3,q4,q5⟩
  .intro x L;by_cases z:x=i
   .subst z;refine vF!;rw[tx,l!,<-O.names,<-hl];exact hr.keep (n5 _ df_) (n5 _ d0!) (n5 _ d0_)
   .obtain⟨r',f',p',q1,q2,q3,q4,q5⟩:=hA.txt x L;refine⟨r',f',p',q1,?_,q3,q4,q5⟩;rw[tx,GL z];exact q2.keep vE_ (ar _ gN_ (by rw[q4];simpa using z) gN_) (ar _ gO! gO! (by rw[q5];simpa using z))
  .intro x L;obtain⟨q,q1,q2,q3⟩:=hA.num x L;exact⟨q,q1,(ar q fa_ fa_ fa_).trans q2,q3⟩
  .intro x L q hq;rw[tx]at hq;by_cases z:x=i
   .subst z;rw[l!]at hq;obtain q0|q0:=GT.mp hq
    .rw[dM λy=>si (by rw[y];exact GP (HJ _ q0))];exact hA.wr x hi q jA!
    .obtain rfl|q0:=GJ.mp q0
     .rw[dG]
     .rw[dM λy=>si (by rw[y];exact GP (GV _ q0))];exact hA.wr x hi q jA_
   .rw[GL z]at hq;rw[dM λy=>hf x L (by rw[y];exact GP hq)];exact hA.wr x L q hq
  .intro x L q hq;rw[tx]at hq;by_cases z:x=i
   .subst z;rw[l!]at hq;obtain q0|q0:=GT.mp hq
    .exact hA.hi x hi q jA!
    .obtain rfl|q0:=GJ.mp q0
     .cases q:kget k6 s with
      |none=>simp[q]
      |some y=>
       obtain⟨x',B,Y⟩:=hA.hk s b7_;exact absurd Y (hf x' B)
     .exact hA.hi x hi q jA_
   .rw[GL z]at hq;exact hA.hi x L q hq
  .intro s' bu;obtain⟨x,B,Y⟩:=hA.hk s' bu;refine⟨x,B,?_⟩;rw[tx];by_cases z:x=i
   .subst z;rw[l!];rw[hl]at Y;simp only[HM,GM,GT,GJ]at Y ⊢;obtain Y|Y:=Y
    .exact .inl Y
    .exact .inr (.inr Y)
   .rw[GL z];exact Y
  .intro x L;rw[tx];by_cases z:x=i
   .subst z;have:=hA.lt x hi;rw[hl]at this;simp at this ⊢;omega
   .rw[GL z];exact up ju!
  .intro b cg;by_cases z:b=a5
   .rw[z,mup_same];simp
   .rw[jB!];by_cases z1:b=f
    .rw[z1];exact hr.live.2.1
    .by_cases z2:b=p
     .rw[z2];exact hr.live.2.2
     .rw[fr b z1 z2];exact hA.live b cg
 .refine qM w hi ?_ dg! nH!
  .have:=w.snd i hi;rw[hl]at this;simp only[HM,GM]at this si ⊢;rw[HU]at this ⊢;rw[GT,NB]at si;refine⟨this.1,HA.mpr ⟨si.2,this.2.1⟩,λa ha b cg=>?_⟩;obtain rfl|cg:=GJ.mp cg
   .exact λz=>si.1 ja_
   .exact this.2.2 a ha b cg
  .obtain q0|q0:=GT.mp hq
   .exact w.sg i hi q jA!
   .obtain rfl|q0:=GJ.mp q0
    .exact hs
    .exact w.sg i hi q jA_
  .obtain q0|q0:=GT.mp hq
   .exact(w.su i hi y hy q jA! q' a8 e).symm
   .obtain rfl|q0:=GJ.mp q0
    .have e':s=q'.1:=e;exact absurd (by rw[e'];exact GP a8) (hf y hy)
    .exact(w.su i hi y hy q jA_ q' a8 e).symm
def ET(t:Aw):WS:=(Ah md!
 (Ah rX_
 (Ah rY_
 (An 5 f9_))))
nonrec def sgn(h n:Int)(q:Nat×Nat):D×D×Bool:=(.tup [aV_,aN!,kX_],.str ⟨#[q.1]⟩,true)
nonrec def eN(q:Nat×Nat):D:=.tup z2!
def uN{h n:Int}:∀(cs:j!) (k0:Nat) (M:Mh) (W:OW) (hb:Nat) (U v:ac!) (cx:D) (ka:MK) (zi zj qg:ac_) (R:q!),hb+cc!<4000->Cc t M o rl W hb->Bx W->i∈W.its->W.txt i=U++v->CW cx U gM_->Dm cx=some ka->
  (∀x∈W.its,∀k':Nat,k0<=k'->D.tup vH!∉(aE_).map b!)->
  (∀M' ρ,Cc t M' o rl vH_ (hb+cc!)->Bx vH_->Fr M rl M' rl->R am_ M')->
  Fx (Vk 6 7) I_ (ET t) ((nP!).map eN) [A!,bm!,M!,d4_,some tx,some cx,zi,zj,qg] M R
 |[],k0,M,W,hb,U,v,cx,ka,zi,zj,qg,R,hB,hO,w,hi,hl,O,hk,hf,hR=>by
  refine⟨trivial,hR M _ ?_ ?_ .refl⟩
  .simp only[OX,LN,HP,KF,Nat.add_zero];rw[<-hl,qO];exact hO
  .simp only[OX,LN,HP];rw[<-hl,qO];exact w
 |c::cs,k0,M,W,hb,U,v,cx,ka,zi,zj,qg,R,hB,hO,w,hi,hl,O,hk,hf,hR=>by
  refine aO!;obtain⟨ki,cn⟩:=(gK!).key;obtain⟨a1,a2,a3,a4,a5,a6,k1,k2,k3,k4,k5,k6,hA⟩:=hO;obtain⟨r,f,p,g1,g2,g3,g4,g5⟩:=hA.txt i hi;obtain⟨e3,h3⟩:=hA.d3;obtain⟨e5,h5⟩:=hA.d5;simp only[GS]at hB hR;have l5:k5.length<big:=by have:=hA.l5;unfold big;omega
  have hs:Pg cc_:=vI!;have zk:∀x∈W.its,D.tup jC!∉(aE_).map b!:=λx L=>hf x L k0 y_;have ua:Al ad! (.tup [.int (k0:Nat)])=some cc_:=by simp[Al,big]
  have hm:De t.B5 "put_behind" M a6_:=by simp only[De,g2.ob,rM.1,and_self]
  have L:∀R',w2 Bt eD_ L_ nQ! M R'=R' a6_ M:=by
   intro R';simp[w2,wl,As,Gz,hA.ob,oF3,Bt,h3,cn,g1,Dw,Aa]
  show ET t nQ_ M _;show Ah md! _ nQ_ M _;have e8:f2 Al s_ (Av is!) nQ_=some cc_:=by
   simp[f2,Aa,Av,Ac,Ag,ua]
  simp only[Ah,An,wl,e8,List.set_cons_succ,List.set_cons_zero,Bk,Bb,L];refine⟨hm,rfl,?_⟩;refine iS g2 dc! hk hs.nn (zk i hi) (by have:=hA.lt i hi;simp;omega) (b1f w hi) λM1 hr fr=>?_;have Y4:M1 a5=some (.dct k5 e5):=by
   rw[fr a5 (λz=>by have:=hA.r5;rw[z,g4]at this;cases this) (λz=>by have:=hA.r5;rw[z,g5]at this;cases this)];exact h5
  have Y5:M1 o=some vf!:=by
   rw[fr o (λz=>by have:=hA.ro;rw[z,g4]at this;cases this) (λz=>by have:=hA.ro;rw[z,g5]at this;cases this)];exact hA.ob
  obtain⟨q1,q2,q3⟩:=b5x (c:=gw_) (e5:=Ge k5 cc_ e5) hA w hi hl O hs zk g3 g4 g5 g1 hr fr;have hU:U++vJ_::v=(U++[vJ_])++v:=by simp
  have:=uN (b:=b) (tx:=tx) (h:=h) (n:=n) cs (k0+1) _ vK! e7_ (U++[nR!]) v cc_ _ (some vI_) (some gw!) (some cc_) R
   (a!) vz_ q3 hi (by rw[a0r,hU]) (.inr ⟨U,_,rfl,rfl,λz=>zk i hi vM!⟩) dc!
   (λx L k' cr z=>by
    have tx:(vK!).txt x=if x=i then U++nR!::v else W.txt x:=rfl
    rw[tx]at z;by_cases y:x=i
    .subst y;rw[l!]at z;simp only[HM,GM,GT,GJ]at z;obtain z|z|z:=z
     .exact hf x hi k' a! vM!
     .simp at z;omega
     .exact hf x hi k' a! (by rw[hl,HM];exact GV _ z)
    .rw[GL y]at z;exact hf x L k' a! z)
   (λM' ρ B Y f'=>hR M' ρ (by
    rw[qN]at B;rw[show hb+(cs.length+1)=hb+1+cs.length by omega,NG];simpa[sgn]using B) (by
    rw[qN]at Y;simpa[sgn]using Y) (q2.trans f'))
  have hp:∀R',By rY! f9_ (wl bv_) nQ! M1 R'=R' (.nx nQ!) (Ay M1 a5 (.dct (Aq k5 cc_ gw!) (Ge k5 cc_ e5))):=by
   intro R';simp[By,wl,As,Gz,Dw,Aa,fC,Y5,oF5,Kn,Y4,show Dm cc_=some _ from rfl,l5]
  simp only[hp];exact this
def b5z{h n:Int}{s:Str}(hO:aF!)(w:Bx W)(cn:e6_)(zl:Dm b=some kb)(hB:gL_)(hs:jD_)
  (hf:∀x∈W.its,∀k':Nat,D.tup vH!∉(aE_).map b!)
  (hR:∀M',Cc t M' o rl vO_ a8!->Bx vO_->Fr M rl M' rl->R .non M'):
  Hq t [aU!,gR!,i,b,d6_] M R:=by
 have h':=hO;show"!3";simp only[Kg,Ah,Ax,Ly,wT,Bb,wl,Ab,Af,Aa];simp[nE!];refine iP hO cn ?_;by_cases c1:i∈W.its
 .simp only[c1,IL]at hR;obtain⟨U,v,e1,e2,e3⟩:=qJ b d6! bk!;have hl:gS!<=16:=by simpa[Str.length]using hs
  have hi:Sj O_ [A!,bm!,M!,d4_,gT!,d4_,none,none,none]=some (s.cps.toList.zipIdx.map eN):=by
   simp[Sj,Aa,eN]
  have:=uN (t:=t) (o:=o) (rl:=rl) (b:=b) (tx:=d6_) (h:=h) (n:=n) s.cps.toList 0 M W hb U v b kb none none none gH! a! hO w c1 e1 (by rw[<-e1];exact e3) zl (λx L k' _=>hf x L k')
   (λM' ρ B Y f'=>hR M' (by rw[<-e2]at B;exact B.mono a!) (by rw[<-e2]at Y;exact Y) f')
  simp only[c1,OF,JY,HL,IB,Ch,An,wl,Dk,Kt,Dw];simp only[Aa,List.getElem?_cons_zero,List.getElem?_cons_succ,Option.join_some,List.set_cons_succ,List.set_cons_zero];exact this
 .simp only[c1,IB]at hR;have:=hR M nS_ w .refl;simpa[c1,Pq]using this
def aS{N:Mh}(O:N b≠none)(hc:N c=none):b≠c:=λz=>O (by rw[z];exact hc)
def c1f(h:∀i,(i,x)∉rows):chl rows x=[]:=by
 cases e:chl rows x with
 |nil=>rfl
 |cons a l=>exact absurd (cE.mp (by rw[e];simp:a∈chl rows x)) (h a)
def El.rne(h:dU!):r≠f/\r≠p:=by
 obtain⟨kf,ef,kp,ep,hf,hp,K⟩:=h.dc;refine⟨cK_,cK_⟩
 .have:=h.ob;rw[z,hf]at this;cases this
 .have:=h.ob;rw[z,hp]at this;cases this
def b7j{f1 p1 f2 p2:xh!}{k3:g!}{M2 M3 M5:Mh}{e1 e2 e3 e4:Nat}(hA:gF!)(w:Bx W)(hn:nt_)(ht:Hv n)(hp:Ff W pl)
  (hg:Oz W.rows n pl b rows')(g1:kget k2 pl=some a6_)(g3:rl r=.rO pl)(g4:rl f=.rF pl)(g5:rl p=.rP pl)
  (R2:El t M2 r f p (Pc n b (chl W.rows pl)))(K2:∀c,c≠f->c≠p->M2 c=Ay M a1 (.dct nT_ e1) c)
  (z1:M2 r1=none)(z2:M2 f1=none)(z3:M2 p1=none)(R3:El t M3 r1 f1 p1 [])(K3:∀c,c≠r1->c≠f1->c≠p1->M3 c=M2 c)
  (y1:Ay M3 a2 gT_ r2=none)(y2:Ay M3 a2 gT_ f2=none)(y3:Ay M3 a2 gT_ p2=none)(R5:El t M5 r2 f2 p2 [])(K5:∀c,c≠r2->c≠f2->c≠p2->M5 c=Ay M3 a2 gT_ c)
  (x1:Ay M5 a3 nV_ q=none):
  ∃af,Ri t vW_ o af a7_ a8! a1 a2 a3 a4 a5 a6 nT_ nU_ nV! (Aq k4 n bj_) k5 k6/\
   Fr M rl vW_ af:=by
 have bc:∀{c d:xh!},rl c≠rl d->c≠d:=λh z=>h jF_;have lv:∀c,rl c≠.oth->M c≠none:=hA.live;have A1:M a1≠none:=lv _ bM_;have A2:M a2≠none:=lv _ ax!;have A3:M a3≠none:=lv _ aU_;have A4:M a4≠none:=lv _ aV!;have AF:M f≠none:=lv _ d0!;have AP:M p≠none:=lv _ d0_;have s2:∀c,M c≠none->M2 c≠none:=λc hc=>by
  by_cases c1:c=f
  .rw[c1];exact R2.live.2.1
  .by_cases c2:c=p
   .rw[c2];exact R2.live.2.2
   .rw[K2 c c1 c2];by_cases c3:c=a1
    .rw[c3,mup_same];simp
    .rw[nX!];exact hc
 have iy:∀c,M c≠none->c≠r1/\c≠f1/\c≠p1:=λc hc=>⟨aS nX_ z1,aS nX_ z2,aS nX_ z3⟩;have s3:∀c,M c≠none->M3 c≠none:=λc hc=>by rw[nY!];exact s2 c hc
 have we:∀c,M3 c≠none->Ay M3 a2 gT_ c≠none:=λc hc=>by
  by_cases c3:c=a2
  .rw[c3,mup_same];simp
  .rw[nX!];exact hc
 have gg:∀c,M3 c≠none->c≠r2/\c≠f2/\c≠p2:=λc hc=>⟨aS nZ! y1,aS nZ! y2,aS nZ! y3⟩;have fw:∀c,M3 c≠none->M5 c≠none:=λc hc=>by rw[vY_];exact we c hc
 have UL:∀c,M5 c≠none->Ay M5 a3 nV_ c≠none:=λc hc=>by
  by_cases c3:c=a3
  .rw[c3,mup_same];simp
  .rw[nX!];exact hc
 have nq:∀c,M5 c≠none->c≠q:=λc hc=>aS (UL c hc) x1;have Y6:a1≠f:=bc (by rw[hA.r1,g4];simp);have Y7:a1≠p:=bc (by rw[hA.r1,g5];simp);have fin:∀c,M c≠none->c≠a1->c≠f->c≠p->c≠a2->c≠a3->c≠a4->Ay d7_ a4 d8! c=M c:=λc hc B Y h3 h4 h5 h6=>by
  rw[gU_,vZ!,jG_,v1!,mU_,nY!,K2 c Y h3,ca!]
 have uc:∀c,M c≠none->c≠a2->c≠a3->c≠a4->Ay d7_ a4 d8! c=M2 c:=λc hc h4 h5 h6=>by
  rw[gU_,vZ!,jG_,v1!,mU_,nY!]
 have UM:∀c,M3 c≠none->c≠a2->c≠a3->c≠a4->Ay d7_ a4 d8! c=M3 c:=λc hc h4 h5 h6=>by
  rw[gU_,mup_ne (nq c (fw c hc)),jG_,vY_,mU_]
 have wf:∀c,M5 c≠none->c≠a3->c≠a4->Ay d7_ a4 d8! c=M5 c:=λc hc h5 h6=>by
  rw[gU_,v3!,jG_]
 generalize Y8:Ay d7_ a4 d8!=M8 at fin uc UM wf;have UN:=R3.rne;have UO:=R5.rne;obtain⟨v1,v2,v3⟩:=R3.live;obtain⟨v4,v5,v6⟩:=R5.live
 let af:Addr->Od:=λc=>if c=r1 then .rO n else if c=f1 then .rF n else if c=p1 then .rP n else if c=r2 then .tO n else if c=f2 then .tF n else if c=p2 then .tP n else if c=q then .nm n else rl c
 have ah:∀c,M c≠none->af c=rl c:=λc hc=>by
  have B:=iy c hc;have Y:=gg c jG!;have h3:=nq c (fw c jG!);show v2!=_;rw[GL B.1,GL B.2.1,GL B.2.2,GL Y.1,GL Y.2.1,GL Y.2.2,GL h3]
 have q1:af r1=.rO n:=GU rfl;have q2:af f1=.rF n:=by show(if f1=r1 then _ else _)=_;rw[GL (GN UN.1),l!]
 have q3:af p1=.rP n:=by show(if p1=r1 then _ else _)=_;rw[GL (GN UN.2),GL (GN R3.ne),l!]
 have w1:∀c,M3 c≠none->c≠r2/\c≠f2/\c≠p2:=gg;have q4:af r2=.tO n:=by show(if r2=r1 then _ else _)=_;rw[GL (GN (n2!).1),GL (GN (n2_).1),GL (GN (n3!).1),l!]
 have q5:af f2=.tF n:=by show(if f2=r1 then _ else _)=_;rw[GL (GN (n2!).2.1),GL (GN (n2_).2.1),GL (GN (n3!).2.1),GL (GN UO.1),l!]
 have q6:af p2=.tP n:=by show(if p2=r1 then _ else _)=_;rw[GL (GN (n2!).2.2),GL (GN (n2_).2.2),GL (GN (n3!).2.2),GL (GN UO.2),GL (GN R5.ne),l!]
 have q7:af q=.nm n:=by
  show(if q=r1 then _ else _)=_;rw[GL (GN (nq _ (fw _ v1))),GL (GN (nq _ (fw _ v2))),GL (GN (nq _ (fw _ v3))),GL (GN (nq _ v4)),GL (GN (nq _ v5)),GL (GN (nq _ v6)),l!]
 have na:∀c,M c≠none->v6!:=iy;have im:∀x,x∈(a7_).its↔x∈W.its\/x=n:=λx=>by simp[Fh]
 have jr:wo W.rows n=W.rows:=by
  refine JI.mpr λq hq=>?_;show"!t";exact λz=>hn ((w.ri n).mp jl!)
 have nP:¬Ff W n:=λz=>z.elim hn λz=>z.elim ht.nn.2.1 ht.nn.2.2;have UP:∀x,Ff a7_ x↔Ff W x\/x=n:=λx=>by unfold Ff;rw[im];constructor<;>(intro z;rcases z with(z|z)|z<;>simp[z])
 have up:∀{x:Nat},x<=hb->x<=hb+20:=λh=>by omega
 have up1:∀{l:g!} {d v:D},O!<=hb->(eX_).length<=hb+20:=λh=>HR dU_ a!;have c1:∀c,rl c≠.oth->rl c≠.par->rl c≠.rows->rl c≠.texts->rl c≠.nums->rl c≠.rF pl->rl c≠.rP pl->M8 c=M c:=λc h0 B Y h3 h4 h5 h6=>
  fin c (lv c h0) (λz=>B n4_) (λz=>h5 n5!) (λz=>h6 n5_) (λz=>Y (by rw[z,hA.r2])) (λz=>h3 (by rw[z,hA.r3])) (λz=>h4 (by rw[z,hA.r4]))
 refine⟨af,?_,λc hc hr=>⟨fin c hc (bc (by rw[hr,hA.r1];simp)) (bc (by rw[hr,g4];simp)) (bc (by rw[hr,g5];simp)) (bc (by rw[hr,hA.r2];simp)) (bc (by rw[hr,hA.r3];simp)) (bc (by rw[hr,hA.r4];simp)),by rw[ah c hc];exact hr⟩⟩;have e8:∀c,M8 c=Ay d7_ a4 d8! c:=λc=>by rw[Y8]
 refine
  {ob:=(c1 o N_ N_ N_ N_ N_ N_ N_).trans hA.ob
   d1:=⟨e1,?d1⟩,d2:=⟨e2,?d2⟩,d3:=⟨e3,?d3⟩,d4:=⟨e4,?d4⟩,d5:=?d5,d6:=?d6
   ro:=(ah o (lv o N_)).trans hA.ro,r1:=(ah a1 A1).trans hA.r1,r2:=(ah a2 A2).trans hA.r2,r3:=(ah a3 A3).trans hA.r3,r4:=(ah a4 A4).trans hA.r4
   r5:=(ah a5 (lv _ aN_)).trans hA.r5,r6:=(ah a6 (lv _ ax_)).trans hA.r6
   p0:=⟨by rw[dM ht.nn.2.1];exact hA.p0.1,by rw[dM ht.nn.2.2];exact hA.p0.2⟩
   pr:=?pr,row:=?row,rown:=?rown,txt:=?txt,txtn:=?txtn,num:=?num,wr:=?wr,hi:=?hi,hk:=?hk
   l1:=up1 hA.l1,l2:=up1 hA.l2,l3:=up1 hA.l3,l4:=up1 hA.l4,l5:=up hA.l5,l6:=up hA.l6,lr:=?lr,lt:=?lt,live:=?live}
 case d1=>rw[uc a1 A1 (bc (by rw[hA.r1,hA.r2];simp)) (bc (by rw[hA.r1,hA.r3];simp)) (bc (by rw[hA.r1,hA.r4];simp)),K2 a1 Y6 Y7,mup_same]
 case d2=>
  have h3:=s3 a2 A2;rw[e8,mup_ne (bc (by rw[hA.r2,hA.r4];simp)),mup_ne (nq a2 (fw a2 h3)),mup_ne (bc (by rw[hA.r2,hA.r3];simp)),K5 a2 (n6_).1 (n6_).2.1 (n6_).2.2,mup_same]
 case d3=>rw[e8,mup_ne (bc (by rw[hA.r3,hA.r4];simp)),mup_ne (nq a3 (fw a3 (s3 a3 A3))),mup_same]
 case d4=>rw[e8,mup_same]
 case d5=>rw[c1 a5 aN_ aN_ aN_ aN_ aN_ aN_ aN_];exact hA.d5
 case d6=>rw[c1 a6 ax_ ax_ ax_ ax_ ax_ ax_ ax_];exact hA.d6
 case pr=>
  intro i p' hm;obtain z|z:=hg.mem.mp hm
  .cases z;rw[dG]
  .rw[jr]at z;rw[dM λy=>rD w hn p' v9!];exact hA.pr i p' z
 case row=>
  intro x L;obtain L|rfl:=(UP x).mp L
  .obtain⟨r',f',p',u1,u2,u3,u4,u5⟩:=hA.row x L;have xn:n≠x:=λz=>nP jK!;have L1:=lv r' ah!;have L2:=lv f' aG!;have L3:=lv p' aG_;by_cases wg:pl=x
   .subst wg;rw[g1]at u1;cases u1;refine⟨r,f,p,by rw[dM xn];exact g1,?_,(ah r L1).trans g3,(ah f AF).trans g4,(ah p AP).trans g5⟩;show El t M8 r f p (chl rows' pl);rw[wb!,jr];exact R2.keep (uc r L1 (bc (by rw[g3,hA.r2];simp)) (bc (by rw[g3,hA.r3];simp)) (bc (by rw[g3,hA.r4];simp))) (uc f AF (bc (by rw[g4,hA.r2];simp)) (bc (by rw[g4,hA.r3];simp)) (bc (by rw[g4,hA.r4];simp))) (uc p AP (bc (by rw[g5,hA.r2];simp)) (bc (by rw[g5,hA.r3];simp)) (bc (by rw[g5,hA.r4];simp)))
   .refine⟨r',f',p',n8!,?_,(ah r' L1).trans u3,(ah f' L2).trans u4,(ah p' L3).trans u5⟩;show El t M8 r' f' p' (chl rows' x);rw[hg.chl_ne wg,jr];exact u2.keep wd! (c1 f' aG! aG! aG! aG! aG! (by rw[u4];simpa using GN wg) aG!) (c1 p' aG_ aG_ aG_ aG_ aG_ aG_ (by rw[u5];simpa using GN wg))
  .refine⟨r1,f1,p1,dG _ _ _,?_,q1,q2,q3⟩;have np:pl≠x:=λz=>nP (z▸hp);show El t M8 r1 f1 p1 (chl rows' x);rw[hg.chl_ne np,jr,c1f λi z=>nP (w.rp _ _ z)];have e:∀c,M3 c≠none->(∀d,M d≠none->d≠c)->M8 c=M3 c:=λc B Y=>UM c B (GN (Y a2 A2)) (GN (Y a3 A3)) (GN (Y a4 A4));exact R3.keep (e r1 v1 λd hd=>(n9_).1) (e f1 v2 λd hd=>(n9_).2.1) (e p1 v3 λd hd=>(n9_).2.2)
 case rown=>
  intro x L;rw[UP,NB]at L;rw[dM (GN L.2)];exact hA.rown x L.1
 case txt=>
  intro x L;obtain L|rfl:=(cB!).mp L
  .obtain⟨r',f',p',u1,u2,u3,u4,u5⟩:=hA.txt x L;have xn:n≠x:=λz=>hn jK!;refine⟨r',f',p',n8!,?_,(ah r' (lv r' ah!)).trans u3,(ah f' (lv f' aG!)).trans u4,(ah p' (lv p' aG_)).trans u5⟩;have e:(a7_).txt x=W.txt x:=by show fc!=_;rw[GL (GN xn)]
   rw[e];exact u2.keep wd! (c1 f' aG! aG! aG! aG! aG! aG! aG!) (c1 p' aG_ aG_ aG_ aG_ aG_ aG_ aG_)
  .refine⟨r2,f2,p2,dG _ _ _,?_,q4,q5,q6⟩;have e:(gX!).txt x=[]:=by show gX_=_;rw[l!]
   rw[e];have o3:=w1 a3 (s3 a3 A3);have o4:=w1 a4 (s3 a4 A4);exact R5.keep (wf r2 v4 (GN o3.1) (GN o4.1)) (wf f2 v5 (GN o3.2.1) (GN o4.2.1)) (wf p2 v6 (GN o3.2.2) (GN o4.2.2))
 case txtn=>
  intro x L;rw[im,NB]at L;rw[dM (GN L.2)];exact hA.txtn x L.1
 case num=>
  intro x L;obtain L|rfl:=(cB!).mp L
  .obtain⟨q',u1,u2,u3⟩:=hA.num x L;have xn:n≠x:=λz=>hn jK!;refine⟨q',n8!,?_,(ah q' (lv q' ah!)).trans u3⟩;have e:(a7_).num x=W.num x:=by show fc!=_;rw[GL (GN xn)]
   rw[e,c1 q' ah! ah! ah! ah! ah! ah! ah!];exact u2
  .refine⟨q,dG _ _ _,?_,q7⟩;have e:(gX!).num x=vV_:=by show gX_=_;rw[l!]
   rw[e,e8,wd_,mup_same]
 case wr=>
  intro x L q0 hq;obtain L|rfl:=(cB!).mp L
  .have e:(a7_).txt x=W.txt x:=by show fc!=_;rw[oa!]
   rw[e]at hq;exact hA.wr x L q0 hq
  .have e:(gX!).txt x=[]:=by show gX_=_;rw[l!]
   rw[e]at hq;cases hq
 case hi=>
  intro x L q0 hq;obtain L|rfl:=(cB!).mp L
  .have e:(a7_).txt x=W.txt x:=by show fc!=_;rw[oa!]
   rw[e]at hq;exact hA.hi x L q0 hq
  .have e:(gX!).txt x=[]:=by show gX_=_;rw[l!]
   rw[e]at hq;cases hq
 case hk=>
  intro s hs;obtain⟨x,B,Y⟩:=hA.hk s hs;refine⟨x,(cB!).mpr (.inl B),?_⟩;have e:(a7_).txt x=W.txt x:=by show fc!=_;rw[GL (λz:x=n=>hn (z▸B))]
  rw[e];exact Y
 case lr=>
  obtain⟨u,v,e,rfl,_⟩:=hg;rw[jr]at e;show(u++(n,pl)::v).length<=_;have:=hA.lr;rw[e]at this;simp at this ⊢;omega
 case lt=>
  intro x L;obtain L|rfl:=(cB!).mp L
  .have e:(a7_).txt x=W.txt x:=by show fc!=_;rw[oa!]
   rw[e];exact up ju!
  .have e:(gX!).txt x=[]:=by show gX_=_;rw[l!]
   rw[e];simp
 case live=>
  intro c hc;have s8:∀c,M5 c≠none->M8 c≠none:=λc hc=>by
   rw[e8];by_cases h6:c=a4
   .rw[h6,mup_same];simp
   .rw[gU_,v3!];exact UL c hc
  by_cases hM:M c=none
  .by_cases ud:c=r1
   .rw[ud];exact s8 _ (fw _ v1)
   .by_cases ue:c=f1
    .rw[ue];exact s8 _ (fw _ v2)
    .by_cases ky:c=p1
     .rw[ky];exact s8 _ (fw _ v3)
     .by_cases kz:c=r2
      .rw[kz];exact s8 _ v4
      .by_cases on:c=f2
       .rw[on];exact s8 _ v5
       .by_cases qh:c=p2
        .rw[qh];exact s8 _ v6
        .by_cases me:c=q
         .rw[me,e8,wd_,mup_same];simp
         .have:af c=rl c:=by show v2!=_;rw[GL ud,GL ue,GL ky,GL kz,GL on,GL qh,GL me]
          rw[this]at hc;exact absurd hM (lv c hc)
  .exact s8 _ (fw _ (s3 c hM))
end
section
variable{t:Aw}{M:Mh}{ρ:Ad}{R:Fl->Mh->Prop}
def a0t{fo fi f:WE}{q:WS}(h:f ρ M λv M1=>fo ρ M1 λd M2=>fi ρ M2 λy M3=>Dw pB_ λM4=>q ρ M4 R):Ah (By fo fi f) q ρ M R:=by exact h
def a4x{f:WE}{q:WS}(h:f ρ M λ_ M1=>q ρ M1 R):Ah (Bk f) q ρ M R:=h
def oU{o:xh!}{fs:aP!}{kvs:g!}{ep:Nat}{fo fi:d_}{Q:cN!}(h0:fo ρ=some aw_)(B:fi ρ=some y)(hM:M o=some gY!)(L:fs.lookup x=some x!)(hp:bO_)(hk:ch_)(hl:dt_)
  (hQ:Q hz_):As C x ce! ρ M (λd M2=>wl fi ρ M2 λy M3=>Dw pB_ λM4=>Q M4):=by
 have e:Kn M x! y v=some hz_:=by simp[Kn,hp,hk,hl]
 simp only[As,wl,h0,Gz,hM,IL,L,Dw,B,e];exact hQ
def d1e{g:WF}{fo:WE}{f1 f2:d_}{K:v_}(h0:∀K,fo ρ M K=K d M)(ho:kU_)(B:fc_)(Y:fd!)(k:g [d,a,b] M K):Bb C m 3 g fo wf_ ρ M K:=by unfold Bb Ab Af;rw[h0];simp only[wl,B,Y];exact ob!
def Ys(t:Aw):WS:=Ah rP!
 (Ah rP_
 (Ah rQ!
 (Ah rQ_
 rR_)))
end
section
variable{t:Aw}{M:Mh}{o:xh!}{rl:Addr->Od}{W:OW}{hb:Nat}{R:D->Mh->Prop}
def c6q(hO:aF!)(w:Bx W)(hn:nt_)(ht:Hv n)(kh:dk_)(zl:Dm b=some kb)(hB:gL_)(hg:Oz W.rows n cF_ b rows')
  (hR:∀M' af,Cc t M' o af a7_ a8!->Fr M rl M' af->R .non M'):Je t [aU!,n,a,b] M R:=by
 have h':=hO;obtain⟨a1,a2,a3,a4,a5,a6,k1,k2,k3,k4,k5,k6,hA⟩:=h';obtain⟨e1,B⟩:=hA.d1;obtain⟨e2,Y⟩:=hA.d2;obtain⟨e3,h3⟩:=hA.d3;obtain⟨e4,h4⟩:=hA.d4;obtain⟨kn,f7⟩:=ht.key;have bc:∀{c d:xh!},rl c≠rl d->c≠d:=λh z=>h jF_;have L1:nz_<big:=by have:=hA.l1;unfold big;omega
 have L2:k2.length<big:=by have:=hA.l2;unfold big;omega
 have L3:k3.length<big:=by have:=hA.l3;unfold big;omega
 have L4:k4.length<big:=by have:=hA.l4;unfold big;omega
 have hp:Ff W cF_:=by split;assumption;exact .inr gy!
 refine m_;have hm:De t.B4 "has" M aw_:=hA.noOb oM1;generalize hK:wg!=KK;have gq:∀ρ' M',R .non M'->KK cl_ M':=λρ' M' z=>by rw[<-hK];exact z
 have key:∀pl,pl=cF_->Ys t fd_ M KK:=by
  intro pl Y9;rw[<-Y9]at hg hp;obtain⟨r,f,p,g1,g2,g3,g4,g5⟩:=hA.row pl hp;obtain⟨kpl,Y'⟩:=pT w hp;refine a0t ?_;have f4:Aa 4 fd_=some pl:=rfl;have uf:Aa 1 fd_=some n:=rfl;have f3:Aa 3 fd_=some b:=rfl;have f0:Aa 0 fd_=some aw_:=rfl;refine oU f0 uf hA.ob oF1 B f7 L1 ?_;refine a4x ?_;have n1:∀c,rl c≠.par->Ay M a1 ob_ c=M c:=λc hc=>mup_ne λz=>hc n4_;have ug:∀R',w2 Bt ct! aj! fd_ oc! R'=R' a6_ oc!:=by
   intro R';simp[w2,wl,As,Gz,n1 o N_,n1 a2 ax!,hA.ob,oF2,Bt,Y,Y',g1,Dw,Aa]
  have uh:=g2.keep (M':=Ay M a1 ob_) (n1 r df_) (n1 f d0!) (n1 p d0_);have yd:De t.B5 "put_behind" oc! a6_:=by simp only[De,uh.ob,rM.1,and_self]
  refine d1e ug yd uf f3 ?_;refine iS uh f7 zl ht.nn.1 (λz=>rD w hn pl oc_) (by have:=uL (W:=W) (x:=pl);have:=hA.lr;omega) (uM w) λM2 R2 K2=>?_;have m2:∀c,rl c≠.par->rl c≠.rF pl->rl c≠.rP pl->M2 c=M c:=λc B Y h3=>(K2 c (λz=>Y n5!) (λz=>h3 n5_)).trans (n1 c B);have pz:M2 o=_:=(m2 o N_ N_ N_).trans hA.ob;have UQ:M2 a2=_:=(m2 a2 ax! ax! ax!).trans Y;have UR:M2 a3=_:=(m2 a3 aU_ aU_ aU_).trans h3;have US:M2 a4=_:=(m2 a4 aV! aV! aV!).trans h4;refine a0t ?_;refine pE λr1 f1 p1 M3 z1 z2 z3 _ _ R3 K3=>?_;have m3:∀c,M2 c≠none->M3 c=M2 c:=λc hc=>K3 c (aS hc z1) (aS hc z2) (aS hc z3);have zm:=(m3 o (by rw[pz];simp)).trans pz;have ZA:=(m3 a2 (by rw[UQ];simp)).trans UQ;have UT:=(m3 a3 (by rw[UR];simp)).trans UR;have UU:=(m3 a4 (by rw[US];simp)).trans US;have ZB:o≠a2:=bc (by rw[hA.ro,hA.r2];simp);have UV:o≠a3:=bc (by rw[hA.ro,hA.r3];simp);have zn:a3≠a2:=bc (by rw[hA.r3,hA.r2];simp);have ZC:a4≠a2:=bc (by rw[hA.r4,hA.r2];simp);have UW:a4≠a3:=bc (by rw[hA.r4,hA.r3];simp);refine oU f0 uf zm oF2 ZA f7 L2 ?_;refine a0t ?_;refine pE λr2 f2 p2 M5 y1 y2 y3 _ _ R5 K5=>?_;have m5:∀c,c≠a2->M3 c≠none->M5 c=M3 c:=λc h0 hc=>by
   have q:Ay M3 a2 (.dct nU_ (Ge k2 n e2)) c≠none:=by rw[mup_ne h0];exact hc
   rw[K5 c (aS q y1) (aS q y2) (aS q y3),mup_ne h0]
  have zo:=(m5 o ZB (by rw[zm];simp)).trans zm;have ZD:=(m5 a3 zn (by rw[UT];simp)).trans UT;have UX:=(m5 a4 ZC (by rw[UU];simp)).trans UU;refine oU f0 uf zo oF3 ZD f7 L3 ?_;refine⟨W!,⟨W!,W!,W!⟩,λq x1=>?_⟩;have q0:o≠q:=aS (N:=wi!) (by rw[mup_ne UV,zo];simp) x1;have q4:a4≠q:=aS (N:=wi!) (by rw[mup_ne UW,UX];simp) x1;obtain⟨af,F1,F2⟩:=b7j (e1:=Ge k1 n e1) (e2:=Ge k2 n e2) (e3:=Ge k3 n e3) (e4:=Ge k4 n e4) hA w hn ht hp hg g1 g3 g4 g5 R2 K2 z1 z2 z3 R3 K3 y1 y2 y3 R5 K5 x1;have:=hR _ af ⟨_,_,_,_,_,_,_,_,_,_,_,_,F1⟩ F2;exact oU (kvs:=k4) (ep:=e4) f0 uf ((mup_ne q0).trans ((mup_ne UV).trans zo)) oF4 ((mup_ne q4).trans ((mup_ne UW).trans UX)) f7 L4 (gq _ _ this)
 show Ah rO_ (Ys t) wi_ M KK;have hh:∀K:D->Mh->Prop,Cw t [aU!,a] M K->Bb t.B4 "has" 2 (Cw t) i! c1! wi_ M K:=λK mf=>⟨hm,rfl,mf⟩;refine hh _ (b0l hO kh ?_);by_cases c:Ff W a
 .rw[HN c];exact key a (by rw[GU c])
 .rw[GZ c];exact key Bo (by rw[GL c])
def uC(hO:aF!)(w:Bx W)(cn:e6_)(gd:nD_)(nu:Dm s=some ks)(hB:gL_)
  (hR:∀M',(dZ!->∀rows',Oz W.rows i x s rows'->Cc t M' o rl {W with rows:=rows'} a8!)->(¬dZ!->Cc t M' o rl W a8!)->Fr M rl M' rl->R .non M'):
  Gh t [aU!,i,x,s] M R:=by
 have h':=hO;obtain⟨a1,a2,a3,a4,a5,a6,k1,k2,k3,k4,k5,k6,hA⟩:=h';obtain⟨e1,B⟩:=hA.d1;obtain⟨e2,Y⟩:=hA.d2;refine m_;show Ah od_ _ oe! M _;simp only[Ah,Ax,Ly,wT,Bb,wl,Ab,Af,Aa,List.getElem?_cons_zero,List.getElem?_cons_succ,Option.join_some];refine⟨hA.noOb oM5,rfl,?_⟩;refine a8a hO w cn gd λb O=>?_;cases b with
 |false=>
  have hc:¬dZ!:=λz=>by have:=O.mpr z;cases this
  have:=hR M (λz=>absurd z hc) (λ_=>hO.mono a!) .refl;simpa[Pq]using this
 |true=>
  have hc:=O.mp rfl;obtain⟨hi,L,hw⟩:=hc;obtain⟨p0,db⟩:=a9b w hi;have UY:Ff W p0:=w.rp _ _ db;obtain⟨r0,f0,q0,u1,u2,u3,u4,u5⟩:=hA.row p0 UY;obtain⟨r,f,p,g1,g2,g3,g4,g5⟩:=hA.row x L;obtain⟨zg,ZE⟩:=pT w UY;obtain⟨uu,vv,c1,c2⟩:=b0y w.rnd db;have lr:=hA.lr;have ZF:∀R',w2 Bt ct! l6_ oe! M R'=R' (.fn r0) M:=by
   intro R';simp[w2,wl,As,Gz,hA.ob,oF1,oF2,Bt,B,Y,cn,hA.pr i p0 db,ZE,u1,Dw,Aa]
  have UZ:De t.B5 "take_out" M (.fn r0):=by simp only[De,u2.ob,rM.2.1,and_self]
  simp only[Bool.not_true,Bool.false_eq_true,if_false,Ch,Bk,Bb,ZF];refine⟨UZ,rfl,?_⟩;refine a4r u2 c1 cn (by have:=uL (W:=W) (x:=p0);omega) (uM w) λM1 R1 K1=>?_;rw[<-c2]at R1;have m1:∀c,rl c≠.rF p0->rl c≠.rP p0->M1 c=M c:=λc B Y=>K1 c (λz=>B (by rw[z,u4])) (λz=>Y (by rw[z,u5]));have vz:=(m1 o N_ N_).trans hA.ob;have ZG:=(m1 a1 bM_ bM_).trans B;have ZH:=(m1 a2 ax! ax!).trans Y;have uh:El t M1 r f p (chl jO_ x):=by
   by_cases e:p0=x
   .subst e;rw[u1]at g1;cases g1;obtain⟨z1,z2⟩:f=f0/\p=q0:=by
     have:=u2.ob;rw[g2.ob]at this;simp at this;exact this
    rw[z1,z2];exact R1
   .rw[a0c λz=>e wj_];exact g2.keep (m1 r df_ df_) (m1 f (by rw[g4];simpa using Ne.symm e) d0!) (m1 p d0_ (by rw[g5];simpa using Ne.symm e))
  have ug:∀R',w2 Bt ct! L_ oe! M1 R'=R' a6_ M1:=by
   intro R';simp[w2,wl,As,Gz,vz,oF2,Bt,ZH,gd,g1,Dw,Aa]
  have wj:De t.B5 "put_behind" M1 a6_:=by simp only[De,uh.ob,rM.1,and_self]
  simp only[ug];refine⟨wj,rfl,?_⟩;have lw:(chl jO_ x).length<=aw!:=by
   have a:=(a4c (rows:=wo W.rows i) (x:=x)).length_le;have b:=(wk_).length_le;simp at a b;omega
  refine iS uh cn nu (gK!).nn.1 (λz=>(jT.mp oc_).2 rfl) a! (λc hc=>uM w c (cE.mpr (jT.mp fe_).1)) λM2 R2 K2=>?_;have m2:∀c,rl c≠.rF x->rl c≠.rP x->M2 c=M1 c:=λc B Y=>K2 c (λz=>B n5!) (λz=>Y n5_);have pz:=(m2 o N_ N_).trans vz;have ZI:=(m2 a1 bM_ bM_).trans ZG;have L1:nz_<big:=by have:=hA.l1;unfold big;omega
  have fin:R .non (Ay M2 a1 of!):=by
   have n3:∀c,rl c≠.par->Ay M2 a1 of! c=M2 c:=λc hc=>mup_ne λz=>hc n4_;have aw:∀c,rl c≠.par->rl c≠.rF x->rl c≠.rP x->rl c≠.rF p0->rl c≠.rP p0->Ay M2 a1 of! c=M c:=λc B Y h3 h4 h5=>(n3 c B).trans ((m2 c Y h3).trans (m1 c h4 h5));refine hR _ (λ_ rows' hg=>⟨a1,a2,a3,a4,a5,a6,Aq k1 i x,k2,k3,k4,k5,k6,?_⟩) (λz=>absurd ⟨hi,L,hw⟩ z) λc hc hr=>⟨aw c dZ_ dZ_ dZ_ dZ_ dZ_,hr⟩;have up:∀{x:Nat},x<=hb->x<=hb+20:=λh=>by omega
   have xi:i≠root/\i≠Bo:=⟨(gK!).nn.2.1,(gK!).nn.2.2⟩;refine{hA with ob:=?_,d1:=ju_,d2:=?_,d3:=?_,d4:=?_,d5:=?_,d6:=?_,p0:=⟨by rw[dM xi.1];exact hA.p0.1,by rw[dM xi.2];exact hA.p0.2⟩,pr:=?_,row:=?_,txt:=?_,num:=?_,l1:=Nat.le_trans dU_ (by have:=hA.l1;omega),l2:=up hA.l2,l3:=up hA.l3,l4:=up hA.l4,l5:=up hA.l5,l6:=up hA.l6,lr:=?_,lt:=λy hy=>up (hA.lt y hy),live:=?_}
   .rw[aw o N_ N_ N_ N_ N_];exact hA.ob
   .rw[aw a2 ax! ax! ax! ax! ax!];exact hA.d2
   .rw[aw a3 aU_ aU_ aU_ aU_ aU_];exact hA.d3
   .rw[aw a4 aV! aV! aV! aV! aV!];exact hA.d4
   .rw[aw a5 aN_ aN_ aN_ aN_ aN_];exact hA.d5
   .rw[aw a6 ax_ ax_ ax_ ax_ ax_];exact hA.d6
   .intro a b hm;obtain z|z:=hg.mem.mp hm
    .cases z;rw[dG]
    .obtain⟨z1,z2⟩:=jT.mp z;rw[dM (Ne.symm z2)];exact hA.pr a b z1
   .intro y hy;by_cases e:x=y
    .subst e;refine vF!;rw[wb!];exact R2.keep (n3 r df_) (n3 f d0!) (n3 p d0_)
    .rw[hg.chl_ne e];by_cases e':p0=y
     .subst e';refine⟨r0,f0,q0,u1,?_,u3,u4,u5⟩;exact R1.keep ((n3 r0 ah!).trans (m2 r0 ah! ah!)) ((n3 f0 aG!).trans (m2 f0 (by rw[u4];simpa using Ne.symm e) aG!)) ((n3 q0 aG_).trans (m2 q0 aG_ (by rw[u5];simpa using Ne.symm e)))
     .obtain⟨r',f',p',v1,v2,v3,v4,v5⟩:=hA.row y hy;refine⟨r',f',p',v1,?_,v3,v4,v5⟩;rw[a0c λz=>e' wj_];exact v2.keep wo_ (aw f' cG_ (by rw[v4];simpa using Ne.symm e) cG_ (by rw[v4];simpa using Ne.symm e') cG_) (aw p' cH! cH! (by rw[v5];simpa using Ne.symm e) cH! (by rw[v5];simpa using Ne.symm e'))
   .intro y hy;obtain⟨r',f',p',v1,v2,v3,v4,v5⟩:=hA.txt y hy;exact⟨r',f',p',v1,v2.keep wo_ (aw f' cG_ cG_ cG_ cG_ cG_) (aw p' cH! cH! cH! cH! cH!),v3,v4,v5⟩
   .intro y hy;obtain⟨q,v1,v2,v3⟩:=hA.num y hy;exact⟨q,v1,(aw q bC! bC! bC! bC! bC!).trans v2,v3⟩
   .obtain⟨u,v,e,rfl,_⟩:=hg;have b:=(wk_).length_le;rw[e]at b;simp at b ⊢;omega
   .intro c hc;by_cases y0:c=a1
    .rw[y0,mup_same];simp
    .rw[mup_ne y0];by_cases y1:c=f
     .rw[y1];exact R2.live.2.1
     .by_cases y2:c=p
      .rw[y2];exact R2.live.2.2
      .rw[K2 c y1 y2];by_cases y3:c=f0
       .rw[y3];exact R1.live.2.1
       .by_cases y4:c=q0
        .rw[y4];exact R1.live.2.2
        .rw[K1 c y3 y4];exact hA.live c hc
  simpa[By,wl,As,Gz,Dw,Aa,pz,oF1,Kn,ZI,cn,L1]using fin
end
end K26
namespace K26
open PySem L2 DL
nonrec def Aw.nd(t:Aw):Prop:=[t.A0,t.A5,t.A6,t.A7,t.A8,t.A9,t.B0,t.B1,t.B2].Nodup
def Lf(c:Nat):Bool:=decide (32<=c)&&decide (c<=126)&&!(c==37)
def To(s:Str):Bool:=decide (ag_<=1000)&&s.cps.toList.all Lf
def c8a(a c:Nat):Rj ⟨#[a]⟩ al!=decide (a<=c):=by
 unfold Rj;simp only[List.cons_lt_cons_iff,List.not_lt_nil,and_false,JO];by_cases h:c<a
 .simp[h]
 .simp[h];omega
def b4z:(" ":Str)=⟨#[32]⟩:=by decide+kernel
def b4y:("~":Str)=⟨#[126]⟩:=by decide+kernel
def c8q(c:Nat):Gv [gw_]=some (.bl (Lf c)):=by
 push_cast[Gv,Rr,Xw,b4z,b4y,c8a,Str.length,Lf]
 by_cases B:32<=c<;>by_cases Y:c<=126<;>simp[B,Y];rw[KI];simp;omega
def xF(ρ:Ad)(ny:ρ=ce_):∀(cs:j!),cs.all Lf=true->
  Fb R_ aJ_ id_ ρ (cs.map λc=>.str al!)=some jP_
 |[],_=>rfl
 |c::cs,h=>by
  rw[LW,HK]at h;have ih:=xF ρ ny cs h.2;subst ny;simp only[GM,Fb,ih];simp[Bn,f1,Ac,Aa,Ag,c8q,h.1]
def xI:∀(cs:j!),Lp ws!=some ws_
 |[]=>rfl
 |c::cs=>by simp only[GM,Lp,xI cs,NK]
def a3r(a b:Str):Eo (.str a) (.str b)=fN_:=by unfold Eo;rfl
def a3s(a b:Int):Eo (.int a) (.int b)=fN_:=by unfold Eo;rfl
def a8f(s:Str):∀xs:List Str,wt_=xs.any (·==s)
 |[]=>rfl
 |x::xs=>by rw[GM,KQ,KQ,a8f s xs,a3r]
def c4b(s:Str)(xs:j_):Ul false a8_ (.tup jQ_)=some (.bl (xs.any (·==s))):=by
 have h:(jQ_).all Kh=true:=by simp[JR,Kh]
 show(if Kh a8_&&(jQ_).all Kh then some (D.bl wt_)else none)=_;rw[h,a8f];rfl
def sU:(Str.ofString "put"==Str.ofString "undo")=false:=by decide+kernel
def sV:(Str.ofString "put"==Str.ofString "redo")=false:=by decide+kernel
def iN:(Str.ofString "move"==Str.ofString "put")=false:=by decide+kernel
def a2x:(Str.ofString "move"==Str.ofString "undo")=false:=by decide+kernel
def a2y:(Str.ofString "move"==Str.ofString "redo")=false:=by decide+kernel
def iO:(Str.ofString "drop"==Str.ofString "put")=false:=by decide+kernel
def gX:(Str.ofString "drop"==Str.ofString "move")=false:=by decide+kernel
def a2z:(Str.ofString "drop"==Str.ofString "undo")=false:=by decide+kernel
def a3a:(Str.ofString "drop"==Str.ofString "redo")=false:=by decide+kernel
def jZ:(Str.ofString "write"==Str.ofString "put")=false:=by decide+kernel
def iW:(Str.ofString "write"==Str.ofString "move")=false:=by decide+kernel
def iX:(Str.ofString "write"==Str.ofString "drop")=false:=by decide+kernel
def a2v:(Str.ofString "write"==Str.ofString "cut")=false:=by decide+kernel
def a2u:(Str.ofString "write"==Str.ofString "set")=false:=by decide+kernel
def yK:(Str.ofString "write"==Str.ofString "undo")=false:=by decide+kernel
def yL:(Str.ofString "write"==Str.ofString "redo")=false:=by decide+kernel
def oA:(Str.ofString "cut"==Str.ofString "put")=false:=by decide+kernel
def lM:(Str.ofString "cut"==Str.ofString "move")=false:=by decide+kernel
def lO:(Str.ofString "cut"==Str.ofString "drop")=false:=by decide+kernel
def kB:(Str.ofString "cut"==Str.ofString "write")=false:=by decide+kernel
def b0f:(Str.ofString "cut"==Str.ofString "set")=false:=by decide+kernel
def a6t:(Str.ofString "cut"==Str.ofString "undo")=false:=by decide+kernel
def a6u:(Str.ofString "cut"==Str.ofString "redo")=false:=by decide+kernel
def nX:(Str.ofString "set"==Str.ofString "put")=false:=by decide+kernel
def lK:(Str.ofString "set"==Str.ofString "move")=false:=by decide+kernel
def lL:(Str.ofString "set"==Str.ofString "drop")=false:=by decide+kernel
def kA:(Str.ofString "set"==Str.ofString "write")=false:=by decide+kernel
def nZ:(Str.ofString "set"==Str.ofString "cut")=false:=by decide+kernel
def a6q:(Str.ofString "set"==Str.ofString "undo")=false:=by decide+kernel
def a6r:(Str.ofString "set"==Str.ofString "redo")=false:=by decide+kernel
def sQ:(Str.ofString "undo"==Str.ofString "put")=false:=by decide+kernel
def pM:(Str.ofString "undo"==Str.ofString "move")=false:=by decide+kernel
def pN:(Str.ofString "undo"==Str.ofString "drop")=false:=by decide+kernel
def nG:(Str.ofString "undo"==Str.ofString "write")=false:=by decide+kernel
def sR:(Str.ofString "undo"==Str.ofString "cut")=false:=by decide+kernel
def a6p:(Str.ofString "undo"==Str.ofString "set")=false:=by decide+kernel
def sS:(Str.ofString "redo"==Str.ofString "put")=false:=by decide+kernel
def pO:(Str.ofString "redo"==Str.ofString "move")=false:=by decide+kernel
def pP:(Str.ofString "redo"==Str.ofString "drop")=false:=by decide+kernel
def nH:(Str.ofString "redo"==Str.ofString "write")=false:=by decide+kernel
def sT:(Str.ofString "redo"==Str.ofString "cut")=false:=by decide+kernel
def a6s:(Str.ofString "redo"==Str.ofString "set")=false:=by decide+kernel
def a2w:(Str.ofString "redo"==Str.ofString "undo")=false:=by decide+kernel
def fZ(a b:Str):Bc (.str a) (.str b)=some (.bl fN_):=by simp[Bc,Be,Hn,a3r]
def in2(k a b:Str):Ul false T! oi!=some (.bl oi_):=by have:=c4b k af!;simpa only[GM,LN,KQ,List.any_nil,Bool.or_false]using this
def a3q(a b:Int):Bc (.int a) (.int b)=some (.bl fN_):=by simp[Bc,Be,Hn,a3s]
abbrev scr(ns:D!):D:=.lst jf_
def a4h{α:Type}{xs:J!}{i:Int}(h0:0<=i)(B:i<i_):∃x,Db xs i=some x/\x∈xs:=by refine⟨xs[i.toNat]' a!,?_,IV _⟩;unfold Db Eg;rw[GU h0,GU B];simp
def c5c(ns:D!)(k:Int):∃c,Nv [dl_,g0_]=some (.int c):=by
 cases ns with
 |nil=>exact⟨0,by push_cast[Nv,Sg,scr,Vn]⟩
 |cons n r=>
  have hp:(0:Int)<g1_+1:=by omega
  obtain⟨x,e,L⟩:=a4h (xs:=ww_) (i:=k%(g1_+1)) (KH _ a!) (by simpa using JQ k hp);obtain⟨c,_,rfl⟩:=HB.mp L;refine⟨c,?_⟩;have e':Ai (.lst ww_) (.int (k%(g1_+1)))=some (.int c):=e;simp only[GM]at e';simp[Nv,Sg,scr,Cd,Bh,sSeq,Gb,Cq,Aa,Vn,f2,f1,Ac,Ag,Bm,Bz,Ds,hp,e']
def jS(ns:D!){k:Int}:∃m,Ck [dl_,g0_]=some bN!/\0<=m/\m<4294967231:=by obtain⟨c,hc⟩:=c5c ns k;refine⟨_,by push_cast[Ck,Wp,hc,Tp];rfl,KH _ c!,JQ _ c!⟩
def mF{n:Int}(h:xs≠[]):∃x,Dt [.lst xs,aN!]=some x/\x∈xs:=by
 have hl:0<i_:=List.length_pos_iff.mpr h;have hp:(0:Int)<i4!:=by omega
 obtain⟨x,e,L⟩:=a4h (xs:=xs) (i:=n%i4!) (KH _ a!) (JQ n hp);refine⟨x,?_,L⟩;have e':Ai J_ (.int (n%i4!))=some x:=e;simp[Dt,Vf,Cd,Bh,Aa,f2,f1,Ac,Ag,Bm,Bz,Ds,hp,e',hl]
def pL{bnd:ad_}{q:aH!}(P:Nat->Ad->Prop):∀(ds:b_) (i:Nat) (ρ:Ad),P i ρ->
  (∀(j:Nat) (d:D) (ρ:Ad),ds[j]?=some d->P (i+j) ρ->∃ai bg,bnd d ρ=some ai/\q ai=some (.nx bg)/\P (i+j+1) bg)->
  ∃ρ',Qs bnd q ds ρ=some cl_/\P (i+f_) ρ'
 |[],i,ρ,h,_=>⟨ρ,rfl,h⟩
 |d::ds,i,ρ,h,hs=>by
  obtain⟨ai,bg,e1,e2,Y⟩:=hs 0 d ρ rfl h;obtain⟨ρ',e3,h3⟩:=pL P ds a1! bg Y λj d ρ hd hp=>by
   have:=hs (j+1) d ρ (by simpa using hd) (by rw[show i+(j+1)=i+1+j by omega];exact hp);rw[show i+(j+1)+1=i+1+j+1 by omega]at this;exact this
  refine⟨ρ',?_,by rw[GS,show i+(ds.length+1)=i+1+ds.length by omega];exact h3⟩;simp[Qs,e1,e2,e3]
def jI{bnd:ad_}{ft:af_}{fe:d_}{ρ:Ad}(R:D->Prop):∀(ds:b_),(∀d∈ds,∃ai b,bnd d ρ=some ai/\ft ai=some b/\(b=true->∃y,fe ai=some y/\R y))->
  ∃ys,Fb bnd ft fe ρ ds=some ys/\M_<=f_/\∀y∈ys,R y
 |[],_=>⟨[],rfl,HD _,λy hy=>by cases hy⟩
 |d::ds,h=>by
  obtain⟨ai,b,e1,e2,hy⟩:=h d GO;obtain⟨ys,e3,hl,hr⟩:=jI R ds λx L=>h x bP!
  cases b with
  |false=>exact⟨ys,by simp[Fb,e1,e2,e3],ea_,hr⟩
  |true=>
   obtain⟨y,e4,r4⟩:=hy rfl;refine⟨y::ys,by simp[Fb,e1,e2,e3,e4],ea_,k5_⟩;obtain rfl|hz:=GJ.mp hz
   .exact r4
   .exact hr z hz
def tG{bnd:ad_}{fe:d_}{ρ:Ad}:∀{ds ys:b_},Fb bnd aJ_ fe ρ ds=some ys->M_=f_
 |[],ys,e=>by cases e;rfl
 |d::ds,ys,e=>by
  unfold Fb at e;obtain⟨ai,e1,e⟩:=GG.mp e;simp only[LG,IL]at e;obtain⟨y,e3,e⟩:=GG.mp e;obtain⟨zs,e4,rfl⟩:=GR.mp e;simp[tG e4]
def NameG(x:D):Prop:=∃a b,x=.tup u0_/\0<=a/\a<16/\1<=b/\b<=2000
def Cv(x:D):Prop:=x=.str "root"\/x=.str "bin"\/NameG x
def Me(x:D):Prop:=x=.non\/NameG x
def Wx(x:D):Prop:=∃a b c,x=.tup u1!/\0<=a/\a<16/\1<=b/\b<=2000/\0<=c/\c<=15
def Kk(x:D):Prop:=x=.non\/Wx x
inductive DG:D->Prop
 |put {a b:D}:Cv a->Me b->DG eb!
 |move {a b c:D}:Cv a->Cv b->Me c->DG g2!
 |drop {a:D}:Cv a->DG g2_
 |write {a b:D} {s:Str}:Cv a->Kk b->To s=true->1<=ag_->ag_<=16->DG fg!
 |cut {a:D} {x y z m:Int}:Cv a->Wx d1_->1<=m->z+m<=16->DG eb_
 |set {a:D} {p n:Int}:Cv a->0<=p->p<=3->n.natAbs<10 ^ 60->DG (.tup [jU!,a,.int p,aN!])
 |undo {a:D}:NameG a->DG (.tup [ol!,a])
 |redo {a:D}:NameG a->DG (.tup [.str "redo",a])
def Us(o:D):Prop:=∃h n tm d,o=.tup [aV_,aN!,.int tm,d]/\0<=h/\h<16/\1<=n/\n<=2000/\DG d
def a7r(h:DG d):∃k r,d=.tup cH_/\(k="write"->∃a b s,r=[a,b,d6_]/\ag_<=16):=by
 cases h with
 |write _ _ _ _ h5=>exact⟨_,_,rfl,λ_=>⟨_,_,_,rfl,h5⟩⟩
 |_=>exact⟨_,_,rfl,λz=>absurd z n_⟩
def b9w{ops:b_}(h:jU_)(hl:jV_):∃its,Ln [.lst ops]=some ol_/\3<=eY!/\eY!<=200/\∀x∈its,Cv x:=by
 obtain⟨ys,e,l,hr⟩:=jI (ρ:=ce_) (bnd:=Bn 0) (ft:=fT mI_) (fe:=Av go_)
  (wC!) ops (by
   intro o ho;obtain⟨h',n,tm,d,rfl,b1,b2,b3,b4,hd⟩:=h o ho;obtain⟨k,r,rfl,_⟩:=a7r hd;refine⟨_,_,rfl,by push_cast[fZ];rfl,λ_=>⟨_,by push_cast,wC_⟩⟩)
 have hc:Ey 1 [] eG! R_ (fT mI_) (Av go_) [ay!]=some a6!:=by
  show wD!;rw[dn!,e];rfl
 have a1:Al (.lst [.str "root"]) a6!=some wD_:=by
  show(if 1+M_<=big then some (D.lst ([.str "root"]++ys))else none)=_;rw[dn!];rfl
 have a2:Al wD_ (.lst jW!)=some (.lst (.str "root"::(ys++jW!))):=by
  show(if M_+1+2<=big then some (D.lst (.str "root"::ys++jW!))else none)=_;rw[dn!];rfl
 refine⟨.str "root"::(ys++jW!),by simp[Ln,Tk,Cd,Bh,f2,fC,hc,a1,a2],H!,ea_,aT_⟩;simp at L;obtain rfl|L|rfl|rfl:=L
 .exact cT!
 .exact .inr (.inr (hr x L))
 .exact .inr aA!
 .exact .inr (.inr ⟨9,9,rfl,W!,W!,W!,W!⟩)
def b6q{ops:b_}(h:jU_)(hl:jV_):∃ss,Lm [.lst ops]=some (.lst ss)/\ss≠[]/\∀x∈ss,Kk x:=by
 let P:Nat->Ad->Prop:=λi ρ=>∃cy x y,ρ=[ay!,on_,x,y]/\cy≠[]/\oo!<=2+16*i/\∀z∈cy,Kk z
 obtain⟨ρ',e,cy,x,y,rfl,f0,_,hf⟩:=pL (bnd:=Bs 2) (q:=Gb s8! s9! Cq)
  P ops 0 [ay!,some (.lst [.non,.tup [.int 9,.int 9,.int 3]]),none,none] ⟨_,_,_,rfl,by simp,by simp,by
   intro z hz;simp at hz;obtain rfl|rfl:=hz
   .exact cT!
   .exact .inr ⟨9,9,3,rfl,W!,W!,W!,W!,W!,W!⟩⟩ (by
  rintro j d ρ hd ⟨cy,x,y,rfl,f0,fl,hf⟩;have hj:j<jV!:=(HC.mp hd).1;obtain⟨h',n,tm,d',rfl,b1,b2,b3,b4,ZJ⟩:=h d (NH hd);obtain⟨k,r,rfl,hw⟩:=a7r ZJ;by_cases hk:k="write"
  .subst hk;obtain⟨a,b,s,rfl,ZK⟩:=hw rfl;have ub:ag_<=big:=by unfold big;omega
   let P2:Nat->Ad->Prop:=λi ρ=>∃cy y,ρ=wH_/\cy≠[]/\oo!<=2+16*(0+j)+i/\∀z∈cy,Kk z
   obtain⟨bg,e2,U',y2,rfl,ZL,ZM,yc⟩:=pL (bnd:=Bs 3) (q:=My 1 s8_) P2 (Dr ag_) 0
    (wH_) ⟨cy,y,rfl,f0,fl,hf⟩ (by
     rintro i d ρ hd ⟨cy,y,rfl,f0,fl,hf⟩;unfold Dr at hd;rw[HY]at hd;obtain⟨i',dw,rfl⟩:=GR.mp hd;obtain⟨am,he⟩:=HC.mp dw;rw[NU]at he;subst he;rw[KZ]at am;have O:oo!<big:=by unfold big;omega
     refine⟨_,_,rfl,by push_cast[My,O];rfl,cy++[.tup [.int h',aN!,.int (i:Nat)]],_,rfl,H!,ea_,k5_⟩;obtain hz|hz:=GT.mp hz
     .exact hf z hz
     .simp at hz;subst hz;exact .inr ⟨_,_,_,rfl,b1,b2,b3,b4,r!,r!⟩)
   have hr:-1000<=jZ!/\jZ!<=100000:=by omega
   refine⟨_,[ay!,some (.lst U'),wH!,y2],rfl,by push_cast[fZ,Rb,Fi,ub,hr,e2],U',_,_,rfl,ZL,?_,yc⟩;simp[Dr]at ZM;omega
  .refine⟨_,[ay!,on_,some (.tup [.int h',aN!,.int tm,.tup cH_]),y],rfl,by push_cast[fZ,hk],cy,_,_,rfl,f0,r!,hf⟩)
 refine⟨cy,?_,f0,hf⟩;simp[Lm,Tj,Jv,Cd,sSeq,Ac,Ag,fC,Rb,Eu,Aa,Bh,e]
abbrev letters:Str:=" abcXYZ.,;!019~[]\\\"'|{}<>@#$&*()-+/=_^:?`"
def sO:or!=41:=by decide+kernel
def b0e:letters.cps.toList.all Lf=true:=by decide+kernel
def b5q:(a9!).cps=#[]:=by decide+kernel
def rW:(a9!).length=0:=by decide+kernel
def Oj(c:Nat):D:=.str al!
def a4s:∀(xs:b_),(∀x∈xs,∃c,x=Oj c/\Lf c=true)->∃cs:List Nat,xs=cs.map Oj/\cs.all Lf=true
 |[],_=>wJ!
 |x::xs,h=>by
  obtain⟨c,rfl,hc⟩:=h x GO;obtain⟨cs,rfl,pi⟩:=a4s xs λy hy=>h y dW_
  exact⟨c::cs,rfl,by simp only[LW,hc,pi,LF]⟩
def qK:∀(cs:j!),Mg j2_=some fh!
 |[]=>rfl
 |c::cs=>by simp only[GM,Oj,Mg];rw[show List.map Oj cs=List.map Oj cs from rfl,qK cs];rfl
def a7h:∀(cs:j!) (acc:Array Nat),(fh!).foldl or_ acc=acc++cs.toArray
 |[],acc=>by simp
 |c::cs,acc=>by
  rw[GM,OY,a7h cs,b5q];simp
def b9u(cs:j!):Txt.join a9! fh!=os!:=by
 unfold Txt.join Builtin.Str.glued;cases cs with
 |nil=>rfl
 |cons c cs=>
  simp only[GM,List.drop_succ_cons,List.drop_zero,List.headD_cons];rw[a7h];simp
def tU:∀(cs:j!),((fh!).map g7_).sum=cc!
 |[]=>rfl
 |c::cs=>by
  have ih:=tU cs;simp only[GM,List.sum_cons,GS];rw[ih];show 1+cc!=_;omega
def c1y{n most:Int}(B:1<=most)(h16:most<=16):∃s,Nu [aN!,.int most]=some a8_/\To s=true/\1<=ag_/\ag_<=16:=by
 have UZ:0<=n%most:=KH _ a!;have wj:n%most<most:=JQ _ a!;obtain⟨N,hN⟩:∃N:Nat,(N:Int)=1+n%most:=⟨(1+n%most).toNat,r!⟩;have ZN:1<=N:=by omega
 have hN2:N<=16:=by omega
 obtain⟨ys,e,l,hr⟩:=jI (ρ:=wK_) (bnd:=Bn 0) (ft:=j3!) (fe:=f2 Ai w! s9_)
  (λy=>∃c,y=Oj c/\Lf c=true) fi! (by
   intro d hd;unfold Dr at hd;obtain⟨i,hi,rfl⟩:=HB.mp hd;have dw:=MZ.mp hi;have z1:(0:Int)<1+3*(i:Int):=by omega
   have z2:1+3*(i:Int)<1073741824:=by omega
   have ak:or!<=big:=by rw[sO];decide
   have hsz:((wL_:Nat):Int)=41:=by
    have:wL_=41:=by rw[<-sO];simp[Str.length]
    omega
   obtain⟨c,ec,hc⟩:=a4h (xs:=letters.cps.toList) (i:=n / (1+3*(i:Int))%41) (KH _ c!) (by rw[hsz];exact JQ _ c!);have m9:Ai os_ (.int (n / (1+3*(i:Int))%41))=some (Oj c):=by
    show(if or!<=big then(Db letters.cps.toList _).map _ else none)=_;rw[GU ak,ec];rfl
   refine⟨_,true,rfl,rfl,λ_=>⟨Oj c,?_,c,rfl,JR.mp b0e c hc⟩⟩;simp[Bn,f2,Aa,fC,Al,Eh,Ds,Tp,Cf,Bz,z1,z2,m9])
 have l2:=tG e;obtain⟨cs,rfl,pi⟩:=a4s ys hr;have bq:cc!=N:=by simpa[Dr]using l2
 have ZO:-1000<=(N:Int)/\(N:Int)<=100000:=by omega
 have hc:Ey 1 [0,2] (Fi mK!) R_ aJ_ ta! wP!=some (.lst j2_):=by
  have hi:Fi mK! wP!=some fi!:=by
   simp[Fi,f2,fC,Aa,Bz,Ds,show 0<most by omega,Al,<-hN,ZO]
  unfold Ey;rw[hi];show(if(fi!).length<=big then Option.map D.lst (Fb _ _ _ wK_ fi!)else none)=_;rw[GU (by simp[Dr,big];omega),e];rfl
 have hj:Lj gm! (.lst j2_)=some (.str os!):=by
  unfold Lj;simp only[qK,LG,tU,GX,rW,Nat.mul_zero,Nat.add_zero,b9u];rw[dn!]
 refine⟨os!,?_,?_,?_,?_⟩
 .simp[Nu,Vc,Cd,sSeq,Cj,fC,Bh,Rt,hc,hj]
 .simp only[To,Str.length,GQ,pi,Bool.and_true,HQ];omega
 .simp only[Str.length,GQ];omega
 .simp only[Str.length,GQ];omega
def GC:Ad->Option Fl:=ta_
def GB:Ad->Option Fl:=tb!
def GA:Ad->Option Fl:=tc!
def FZ:Ad->Option Fl:=td!
def FG:Ad->Option Fl:=td_
def FY:Ad->Option Fl:=te!
def FX:Ad->Option Fl:=tf_
def FW:Ad->Option Fl:=ti!
def FV:Ad->Option Fl:=tk!
def FU:Ad->Option Fl:=tl_
def BN:Ad->Option Fl:=tn!
def BM:Ad->Option Fl:=tp!
def Zs:Ad->Option Fl:=tr!
def Xz:Ad->Option Fl:=tu!
nonrec def dq14:Ad->Option Fl:=tu_
nonrec def dq15:Ad->Option Fl:=tv_
def CL:Ad->Option Fl:=(sSeq FW (sSeq FV (sSeq FU (sSeq BN wQ!))))
def b4k:Pl=(sSeq GC (sSeq GB (sSeq GA (sSeq FZ (sSeq FG (sSeq FY (sSeq FX CL))))))):=rfl
def bH{q1 q2:aH!}{ρ ρ':Ad}(h:q1 ρ=some cl_):sSeq q1 q2 ρ=q2 ρ':=by simp[sSeq,h]
def nJ{q1 q2:aH!}{ρ:Ad}(h:q1 ρ=some aW_):sSeq q1 q2 ρ=some aW_:=by simp[sSeq,h]
def gZ{f:d_}{ρ:Ad}{i:Nat}(h:cE_):Cj i f ρ=some (.nx bN_):=by simp[Cj,h]
abbrev kinds:List D:=[jT!,jT!,jT!,ok_,ok_,jT_,jT_,.str "cut",jU!,ol!,.str "redo",.str "drop"]
def KindOk(k:Str):Prop:=k="put"\/k="move"\/k="write"\/k="cut"\/k="set"\/k="undo"\/k="redo"\/k="drop"
def a7x{α:Type}{xs:J!}{lo hi:a5!}{x:α}(h:x∈Da xs lo hi):x∈xs:=List.mem_of_mem_drop (List.mem_of_mem_take h)
def Qr:D->D
 |.str _=>.non
 |d=>d
def a6z(h:Cv d\/d=.non):(Fq "str" d=some true/\Qr d=.non)\/(Fq "str" d=some false/\Qr d=d/\Me d):=by
 rcases h with(rfl|rfl|⟨a,b,rfl,h⟩)|rfl
 .exact .inl bI_
 .exact .inl bI_
 .exact .inr ⟨rfl,rfl,.inr ⟨a,b,rfl,h⟩⟩
 .exact .inr ⟨rfl,rfl,cT!⟩
def c8z(ns:D!){base most:Int}{ops:b_}(h:jU_)(hl:jV_):∃m0 its item iz k,0<=m0/\its≠[]/\(∀x∈its,Cv x)/\Cv item/\Me iz/\KindOk k/\
  Pl wR_=CL ou!:=by
 obtain⟨m0,e0,p0,_⟩:=jS ns (k:=base);obtain⟨m1,e1,_,_⟩:=jS ns (k:=base+1);obtain⟨m2,e2,_,_⟩:=jS ns (k:=base+2);obtain⟨its,ei,i3,i200,oo⟩:=b9w h hl;have wk:its≠[]:=by intro z;subst z;simp at i3
 have rl:wT!≠[]:=by
  intro z;have z2:=congrArg List.length z;simp[Da,HT.sIx]at z2;omega
 have bq:(wU_).length+(wV!).length<=big:=by
  simp[Da,HT.sIx,big];omega
 obtain⟨item,ep,mp⟩:=mF (n:=m1) rl;have oq:Cv item:=by
  obtain z|z:=GT.mp mp
  .exact oo _ (a7x z)
  .exact oo _ (a7x z)
 have a1:Al (.lst wU_) (.lst wV!)=some (.lst wT!):=by
  show g6!;rw[GU bq]
 have a2:Al ol_ (.lst iO!)=some (.lst (its++iO!)):=by
  show(if eY!+2<=big then _ else none)=_;rw[dn!]
 obtain⟨oth,eo,mo⟩:=mF (n:=m2) (xs:=its++iO!) c_;have ui:Cv oth\/oth=.non:=by
  obtain z|z:=GT.mp mo
  .exact .inl (oo _ z)
  .simp at z;exact .inr z
 have mv:Me (Qr oth):=by
  obtain⟨_,z⟩|⟨_,z,y⟩:=a6z ui
  .rw[z];exact .inl rfl
  .rw[z];exact y
 obtain⟨kd,ek,mk⟩:=a4h (xs:=kinds) (i:=m0%12) (KH _ c!) (by show _<(12:Int);exact JQ _ c!);obtain⟨k,rfl,hk⟩:∃k,kd=.str k/\KindOk k:=by
  simp[kinds]at mk;unfold KindOk;obtain rfl|rfl|rfl|rfl|rfl|rfl|rfl|rfl:=mk<;>exact⟨_,rfl,H!⟩
 have ZP:Ai (.lst kinds) (.int (m0%12))=some T!:=ek;refine⟨m0,its,item,Qr oth,k,p0,wk,oo,oq,mv,hk,?_⟩;rw[b4k];rw[bH (ρ':=[X!,an_,ay!,bn_,bP_,none,none,none,none,none,none,none]) (gZ (by simp[f1,Ac,Aa,Ag,e0]))];rw[bH (ρ':=[X!,an_,ay!,bn_,bP_,cg!,none,none,none,none,none,none]) (gZ (by simp[f1,Ac,Aa,Ag,ei]))];rw[bH (ρ':=[X!,an_,ay!,bn_,bP_,cg!,cI!,none,none,none,none,none]) (gZ (by
  have b1:Al j4_ aS!=some (.int (base+1)):=rfl;simp[f1,Ac,Aa,Ag,f2,Ep,Bi,At,Au,fC,a1,b1,e1,ep]))]
 rw[bH (ρ':=[X!,an_,ay!,bn_,bP_,cg!,cI!,some oth,none,none,none,none]) (gZ (by
  have b1:Al j4_ bt_=some (.int (base+2)):=rfl;simp[f1,Ac,Aa,Ag,f2,fC,a2,b1,e2,eo]))]
 rw[bH (ρ':=[X!,an_,ay!,bn_,bP_,cg!,cI!,ow!,none,none,none,none]) (by
  obtain⟨z1,z2⟩|⟨z1,z2,_⟩:=a6z ui<;>simp[FG,Gb,fT,Dj,Aa,z1,z2,Cq,Cj,fC])]
 rw[bH (ρ':=[X!,an_,ay!,bn_,bP_,cg!,cI!,ow!,fi_,none,none,none]) (gZ dc!)];rw[bH (ρ':=[X!,an_,ay!,bn_,bP_,cg!,cI!,ow!,fi_,some T!,none,none]) (gZ (by simp[f2,Aa,fC,Bz,Ds,ZP]))]
section
variable{ρ:Ad}
def b5l{c:af_}{a b:aH!}(h:c ρ=some true):Gb c a b ρ=a ρ:=by unfold Gb;rw[h];rfl
def gP{c:af_}{a:aH!}(h:c ρ=some false):Gb c a Cq ρ=some am_:=by unfold Gb;rw[h];rfl
def pX{i:Nat}{b:Bool}(h:Aa i ρ=some T!)(e:(k==s)=b):fT (f2 Bc (Aa i) (fC a8_)) ρ=some b:=by unfold fT f2 fC;rw[h];show(Bc T! a8_).bind _=_;rw[fZ,e];rfl
def dB{f:d_}{fs:am!}(h:cE_)(g:g7!):Ac f fs ρ=some d1!:=by unfold Ac;rw[h,g];rfl
def nN{fs:am!}{ds:b_}(h:g7!)(hl:wZ_):Bh (Av fs) ρ=some (.rt dh!):=by unfold Bh Av;rw[h];show Option.map _ w0!=_;rw[w0_];rfl
def wY{g:W_}{fs:am!}(h:g7!)(e:g ds=some d):f1 g fs ρ=some d:=by unfold f1;rw[h];exact e
def fU{g:aW!}{f1 f3:d_}(h:f1 ρ=some x)(k:f3 ρ=some y)(e:g x y=some d):f2 g f1 f3 ρ=some d:=by unfold f2;rw[h,k];exact e
def a6d{ns:D!}{base j m:Int}(h:Aa 0 ρ=some (scr ns))(g:Aa 1 ρ=some j4_)(e:Ck [dl_,.int (base+j)]=some bN!):f1 Ck (Ac n! (Ac (f2 Al s_ (fC di!)) Ag)) ρ=some bN!:=
 wY (dB h (dB (fU g rfl rfl) rfl)) e
def b7v{m:Int}{f h:d_}(a:f ρ=some J_)(b:h ρ=some bN!)(e:Dt [.lst xs,d3!]=some p):f1 Dt (Ac f (Ac h Ag)) ρ=some p:=
 wY (dB a (dB b rfl)) e
end
def a9y{i j:Int}(h:0<j):Bz bb_ di!=some (.int (i%j)):=by show(if decide (0<j)=true then _ else _)=_;rw[GU (HN h)]
def c4r(ns:D!){base most:Int}{ops:b_}(h:jU_)(hl:jV_)(wj:1<=most)(ZQ:most<=16):∃d,Jy w2!=some d/\DG d:=by
 obtain⟨m0,its,item,iz,k,p0,wk,oo,oq,ui,hk,hA⟩:=c8z ns (base:=base) (most:=most) h hl;have fin:∀d,CL ou!=some aW_->Jy w2!=some d:=λd e=>by
  unfold Jy Cd;rw[GU dc!];show(match Pl wR_ with|some (.rt d)=>some d|some (.nx _)=>some .non|none=>none)=_;rw[hA,e]
 clear hA;obtain⟨m1,e1,_,_⟩:=jS ns (k:=base+1);obtain⟨m3,e3,_,_⟩:=jS ns (k:=base+3);obtain⟨m4,e4,_,_⟩:=jS ns (k:=base+4);obtain⟨m5,e5,_,_⟩:=jS ns (k:=base+5);obtain⟨p1,ZR,ZS⟩:=mF (n:=m1) wk;obtain⟨p3,ZT,ZU⟩:=mF (n:=m3) wk;obtain⟨ss,es,zp,ZV⟩:=b6q h hl;obtain⟨sg,eg,mg⟩:=mF (n:=m4) zp;have VA:=ZV _ mg;obtain⟨tx,et,ZW,ZX,ZY⟩:=c1y (n:=m5) wj ZQ;have uj:∀{k:Str},BN ou!=some (.nx ox_):=
  gZ (wY (dB (wY oy! es) (dB (a6d rfl rfl e4) rfl)) eg)
 have VB:∀{k:Str},w3!=true->Xz ox_=some (.rt w4!):=λ{k} e=>
  (b5l (by unfold fT;rw[w5!,e];rfl)).trans (nN rfl rfl)
 have VC:DG w4!:=.set oq a! a! a!;obtain⟨nm,nn,ZZ⟩:∃nm,NameG nm/\∀{k:Str},("put"==k)=false->sSeq dq14 dq15 [some (scr ns),some (.int base),some (.lst ops),some (.int most),some (.int m0),some (.lst its),some item,some iz,some (.lst kinds),some (.str k),some sg,none]=some (.rt (.tup [.str k,nm])):=by
  obtain⟨ys,e,l,hr⟩:=jI (ρ:=ce_) (bnd:=Bn 0) (ft:=j3!) (fe:=Av go_)
   (wC!) ops (by
    intro o ho;obtain⟨h',n,tm,d,rfl,b1,b2,b3,b4,_⟩:=h o ho;exact⟨_,true,rfl,rfl,λ_=>⟨_,rfl,wC_⟩⟩)
  have a1:Al a6! (.lst oz_)=some (.lst (ys++oz_)):=by
   show(if M_+1<=big then _ else none)=_;rw[dn!]
  obtain⟨nm,en,mn⟩:=mF (n:=m1) (xs:=ys++oz_) c_;refine⟨nm,?_,λ{k} _=>(bH (gZ (fU ?_ rfl a1))).trans (nN (dB rfl (dB (b7v rfl w9_ en) rfl)) rfl)⟩
  .obtain z|z:=GT.mp mn
   .exact hr _ z
   .simp at z;subst z;exact⟨_,_,rfl,W!,W!,r!,r!⟩
  .show wD!;rw[dn!,e];rfl
 have wm:∀{k:Str},("put"==k)=false->(k=="write")=false->(k=="cut")=false->w3!=false->(wQ!) ox_=some (.rt (.tup [.str k,nm])):=λ{k} e0 w c s=>
  (bH (gP (pX rfl w))).trans ((bH (gP (by unfold Cy;rw[pX rfl c];rfl))).trans ((bH (gP (by unfold fT;rw[w5!,s];rfl))).trans (ZZ e0)))
 unfold KindOk at hk;obtain rfl|rfl|rfl|rfl|rfl|rfl|rfl|rfl:=hk
 .exact⟨_,fin _ (nJ ((j6_).trans (nN (dB rfl (dB (b7v rfl w9_ ZR) rfl)) rfl))),.put (oo _ ZS) ui⟩
 .exact⟨_,fin _ ((bH (gP (pX rfl iN))).trans (nJ ((j6_).trans (nN (dB rfl (dB rfl (dB (b7v rfl (a6d rfl rfl e3) ZT) rfl))) rfl)))),.move oq (oo _ ZU) ui⟩
 all_goals first|(refine⟨_,fin _ ((bH (gP (pX rfl iO))).trans ((bH (gP (pX rfl gX))).trans (nJ ((j6_).trans (nN rfl rfl))))),.drop oq⟩;done)|skip
 .exact⟨_,fin _ ((bH (gP (pX rfl jZ))).trans ((bH (gP (pX rfl iW))).trans ((bH (gP (pX rfl iX))).trans ((ha_).trans
   (nJ ((j6_).trans (nN (dB rfl (dB rfl (dB rfl (dB (wY (dB (a6d rfl rfl e5) rfl) et) rfl)))) rfl))))))),.write oq VA ZW ZX ZY⟩
 .have go:CL [X!,an_,ay!,bn_,bP_,cg!,cI!,j5!,fi_,some dH_,none,none]=sSeq Zs wP_ [X!,an_,ay!,bn_,bP_,cg!,cI!,j5!,fi_,some dH_,some sg,none]:=(bH (gP (pX rfl oA))).trans ((bH (gP (pX rfl lM))).trans ((bH (gP (pX rfl lO))).trans ((ha_).trans (bH (gP (pX rfl kB))))));obtain rfl|⟨a,b,c,rfl,B,Y,h3,h4,c0,Z0⟩:=VA
  .exact⟨_,fin _ (go.trans ((bH (gP xn!)).trans (nJ (VB rfl)))),VC⟩
  .have hc:0<16 - c:=by omega
   have q1:0<=m0 / 12%(16 - c):=KH _ a!;have q2:m0 / 12%(16 - c)<16 - c:=JQ _ hc;exact⟨_,fin _ (go.trans (nJ ((b5l xn!).trans (nN (dB rfl (dB rfl (dB rfl (dB (fU rfl (fU rfl rfl (a9y hc)) rfl) rfl)))) rfl)))),.cut oq ⟨a,b,c,rfl,B,Y,h3,h4,c0,Z0⟩ a! a!⟩
 .exact⟨_,fin _ ((bH (gP (pX rfl nX))).trans ((bH (gP (pX rfl lK))).trans ((bH (gP (pX rfl lL))).trans ((ha_).trans ((bH (gP (pX rfl kA))).trans ((bH (gP (by unfold Cy;rw[pX rfl nZ];rfl))).trans (nJ (VB n_)))))))),VC⟩
 .exact⟨_,fin _ ((bH (gP (pX rfl sQ))).trans ((bH (gP (pX rfl pM))).trans ((bH (gP (pX rfl pN))).trans ((ha_).trans (wm sU nG sR n_))))),.undo nn⟩
 .exact⟨_,fin _ ((bH (gP (pX rfl sS))).trans ((bH (gP (pX rfl pO))).trans ((bH (gP (pX rfl pP))).trans ((ha_).trans (wm sV nH sT n_))))),.redo nn⟩
def fF(h:Cv d):Ei d=true:=by obtain rfl|rfl|⟨a,b,rfl,_⟩:=h<;>simp[Ei,Fd]
def yU(h:Me d):Ei d=true:=by obtain rfl|⟨a,b,rfl,_⟩:=h<;>simp[Ei,Fd]
def vV(h:NameG d):Ei d=true:=by obtain⟨a,b,rfl,_⟩:=h;simp[Ei,Fd]
def a8r(h:Kk d):Ei d=true:=by obtain rfl|⟨a,b,c,rfl,_⟩:=h<;>simp[Ei,Fd]
def b0t(h:DG d):Ei d=true:=by
 cases h with
 |put B Y=>simp[Ei,Fd,fF B,yU Y]
 |move B Y h3=>simp[Ei,Fd,fF B,fF Y,yU h3]
 |drop B=>simp[Ei,Fd,fF B]
 |write B Y=>simp[Ei,Fd,fF B,a8r Y]
 |cut B=>simp[Ei,Fd,fF B]
 |set B=>simp[Ei,Fd,fF B]
 |undo B=>simp[Ei,Fd,vV B]
 |redo B=>simp[Ei,Fd,vV B]
abbrev Ux:Ad->Option Fl:=(sSeq ty!
 (sSeq ty_
 (sSeq tz!
 (sSeq tA!
 (sSeq tB_
 tD!)))))
end K26
namespace K26
open PySem L2 DL
open Classical
inductive Ra(W:OW)(n:D):D->OW->Prop
 |put {a b:D} {rows':g!}:Cv a->Me b->Oz W.rows n cF_ b rows'->Ra W n eb! a7_
 |mvY {a b c:D} {rows':g!}:Cv a->Cv b->Me c->xr!->Oz W.rows a b c rows'->Ra W n g2! {W with rows:=rows'}
 |mvN {a b c:D}:Cv a->Cv b->Me c->¬xr!->Ra W n g2! W
 |drY {a:D} {rows':g!}:Cv a->xr_->Oz W.rows a Bo .non rows'->Ra W n g2_ {W with rows:=rows'}
 |drN {a:D}:Cv a->¬xr_->Ra W n g2_ W
 |wrt {a b:D} {s:Str} {h m:Int}:Cv a->Kk b->ag_<=16->n=.tup cg_->Ra W n fg! (if a∈W.its then setT W a xs! else W)
 |cut {a:D} {x y z m:Int}:Cv a->0<=z->1<=m->z+m<=16->Ra W n (.tup [.str "cut",a,.tup [.int x,.int y,.int z],.int m]) (if a∈W.its then setT W a (cutT ((List.range m.toNat).map λk=>.tup gM!) ao!)else W)
 |set {a:D} {p v:Int}:Cv a->0<=p->p<=3->Ra W n kc! (if a∈W.its then Ry W a kc_ else W)
def cL(h:Cv x):∃k,Dm x=some k:=by
 obtain rfl|rfl|⟨a,b,rfl,_⟩:=h
 .exact H_
 .exact H_
 .exact H_
def uW(h:Me x):∃k,Dm x=some k:=by
 obtain rfl|⟨a,b,rfl,_⟩:=h
 .exact H_
 .exact H_
def b4c(h:Kk x):∃k,Dm x=some k:=by
 obtain rfl|⟨a,b,c,rfl,_⟩:=h
 .exact H_
 .exact H_
structure Rh(W:OW)(pre:b_):Prop where
 inv:Bx W
 its:∀x∈W.its,x∈pre
 sgs:∀x∈W.its,∀q∈W.txt x,∃h n k,q.1=.tup xt!/\D.tup S_∈pre
 chr:∀x∈W.its,∀q∈W.txt x,∃c:Nat,q.2.1=.str al!
section
variable{t:Aw}{M:Mh}{o:xh!}{rl:Addr->Od}{W W':OW}{hb:Nat}{R:D->Mh->Prop}{pre:List D}
def oQ{h n:Int}{s:Str}{q:e4!}(hq:q∈s.cps.toList.zipIdx.map d4!):∃c k:Nat,q=(.tup oD_,.str al!,true):=by obtain⟨⟨c,k⟩,_,rfl⟩:=HB.mp hq;exact⟨c,k,rfl⟩
def b1k(h n:Int):∀(cs:j!) (k0:Nat),(((xt_).map b!)).Nodup/\∀k:Nat,k<k0->D.tup oD_∉(xt_).map b!
 |[],k0=>by simp
 |c::cs,k0=>by
  obtain⟨B,Y⟩:=b1k h n cs (k0+1);refine⟨HA.mpr ⟨Y k0 a!,B⟩,λk hk z=>?_⟩;obtain z|z:=GJ.mp z
  .simp[sgn]at z;omega
  .exact Y k a! z
def a0l{h m:Int}(hs:Ra W kd! d W')(w:dp!)(hn:xu!):Rh W' xu_:=by
 have keep:∀{V:OW},V.its=W.its->V.txt=W.txt->Bx V->Rh V xu_:=λ{V} e1 e2 wi=>by
  refine⟨wi,aT_,kd_,kd_⟩
  .rw[e1]at L;exact HJ _ (w.its x L)
  .rw[e1]at L;rw[e2]at hq;obtain⟨a,b,c,e,hm⟩:=w.sgs x L q hq;exact⟨a,b,c,e,HJ _ hm⟩
  .rw[e1]at L;rw[e2]at hq;exact w.chr x L q hq
 cases hs with
 |put y1 y2 hg=>
  rename_i a b rows';have ni:D.tup cg_∉W.its:=λz=>hn (w.its _ z);have hp:Ff W cF_:=by split;assumption;exact .inr gy!
  have im:∀x,x∈(xv!).its↔x∈W.its\/x=.tup cg_:=λx=>by simp[Fh]
  have tx:∀x,(xv!).txt x=if x=.tup cg_ then[]else W.txt x:=λx=>rfl
  refine⟨hg.winv_put w.inv ni bz! hp,aT_,kd_,kd_⟩
  .obtain z|rfl:=(cB!).mp L
   .exact HJ _ (w.its x z)
   .simp
  .rw[tx]at hq;by_cases e:x=.tup cg_
   .rw[GU e]at hq;cases hq
   .rw[GL e]at hq;obtain⟨a,b,c,e',hm⟩:=w.sgs x xv_ q hq;exact⟨a,b,c,e',HJ _ hm⟩
  .rw[tx]at hq;by_cases e:x=.tup cg_
   .rw[GU e]at hq;cases hq
   .rw[GL e]at hq;exact w.chr x xv_ q hq
 |mvY _ _ _ hc hg=>exact keep rfl rfl xw!
 |mvN _ _ _ hc=>exact keep rfl rfl w.inv
 |drY _ hc hg=>exact keep rfl rfl xw!
 |drN _ hc=>exact keep rfl rfl w.inv
 |wrt y1 y2 y3 e=>
  rename_i a b s h' m';cases e;by_cases c:a∈W.its
  .rw[GU c];obtain⟨U,v,e1,e2,e3⟩:=qJ b hc! ao!;have mem:∀q,q∈wrT b hc! ao!↔q∈W.txt a\/q∈s.cps.toList.zipIdx.map kb_:=λq=>by
    rw[e2,e1];simp only[GT];constructor<;>(intro z;rcases z with(z|z)|z<;>simp[z])
   have fresh:∀x∈W.its,∀q∈W.txt x,∀k:Int,q.1≠.tup [aV_,d3!,g0_]:=λx L q hq k z=>by
    show"!^";rw[e']at z;cases z;exact hn hm
   have tx:∀x,(xw_).txt x=if x=a then wrT b hc! ao! else W.txt x:=λx=>rfl
   have all:∀(P:D×D×Bool->Prop),(∀x∈W.its,∀q∈W.txt x,P q)->(∀q∈s.cps.toList.zipIdx.map kb_,P q)->∀x∈W.its,∀q∈(xw_).txt x,P q:=λP B Y x L q hq=>by
    rw[tx]at hq;by_cases e:x=a
    .rw[GU e]at hq;obtain z|z:=(mem q).mp hq
     .exact B a c q z
     .exact Y q z
    .rw[GL e]at hq;exact B x L q hq
   refine⟨qM w.inv c ?_ dg! nH!,λx L=>HJ _ (w.its x L),all _ (λx L q hq=>?_) dg!,all _ w.chr dg!⟩
   .rw[e2];have nd:=w.inv.snd a c;rw[e1]at nd;obtain⟨n1,_⟩:=b1k h m s.cps.toList 0;have dj:∀q∈W.txt a,∀q'∈s.cps.toList.zipIdx.map kb_,q.1≠q'.1:=λq hq q' a8=>by
     obtain⟨c',k',rfl⟩:=oQ a8;exact fresh a c q hq _
    simp only[HM]at nd ⊢;rw[HU]at nd;rw[HU,HU];refine⟨⟨nd.1,n1,jn_⟩,nd.2.1,jn_⟩
    .obtain⟨q,hq,rfl⟩:=HB.mp L;obtain⟨q',a8,rfl⟩:=HB.mp hy;exact dj q (by rw[e1];exact HJ _ hq) q' a8
    .obtain L|L:=GT.mp L
     .exact nd.2.2 x L y hy
     .obtain⟨q',a8,rfl⟩:=HB.mp L;obtain⟨q,hq,rfl⟩:=HB.mp hy;exact GN (dj q (by rw[e1];exact GV _ hq) q' a8)
   .obtain z|z:=(mem q).mp hq
    .exact w.inv.sg a c q z
    .obtain⟨c',k',rfl⟩:=oQ z;exact vI!
   .obtain z|z:=(mem q).mp hq
    .exact(w.inv.su a c y hy q z q' a8 e).symm
    .obtain⟨c',k',rfl⟩:=oQ z;exact absurd e.symm (fresh y hy q' a8 _)
   .show"!^";exact oG_
   .obtain⟨c',k',rfl⟩:=oQ hq;exact⟨_,_,_,rfl,H!⟩
   .obtain⟨c',k',rfl⟩:=oQ hq;exact H_
  .show"!}"
 |cut y1 y2 y3 y4=>
  rename_i a x y z m';by_cases c:a∈W.its
  .rw[GU c];have tx:∀v,(setT W a (cutT xA! ao!)).txt v=if v=a then cutT xA! ao! else W.txt v:=λx=>rfl
   refine⟨a0a w.inv c _,λv hv=>HJ _ (w.its v hv),xC_,xC_⟩
   .rw[tx]at hq;split at hq
    .show"!:";obtain⟨a',b',c',e',hm⟩:=w.sgs a c q0 h0;exact oG_
    .obtain⟨a',b',c',e',hm⟩:=w.sgs v hv q hq;exact oG_
   .rw[tx]at hq;split at hq
    .show"!:";exact w.chr a c q0 h0
    .exact w.chr v hv q hq
  .show"!}"
 |set y1 y2 y3=>
  rename_i a p v;by_cases c:a∈W.its
  .rw[GU c];exact keep rfl rfl (b4e w.inv (by rw[KD];exact w.inv.nl a c))
  .show"!}"
end
def b9p:(Str.ofString "put"==Str.ofString "put")=true:=by decide+kernel
def a3b:(Str.ofString "move"==Str.ofString "move")=true:=by decide+kernel
def a3c:(Str.ofString "drop"==Str.ofString "drop")=true:=by decide+kernel
def a6v:(Str.ofString "write"==Str.ofString "write")=true:=by decide+kernel
def b9q:(Str.ofString "cut"==Str.ofString "cut")=true:=by decide+kernel
def b9o:(Str.ofString "set"==Str.ofString "set")=true:=by decide+kernel
section
variable{t:Aw}{M:Mh}{o:xh!}{rl:Addr->Od}{W W':OW}{hb:Nat}{R:D->Mh->Prop}{pre:List D}
def ifT{ft:af_}{q1 q2:WS}{ρ:Ad}{R:q!}(h:xE_)(k:q1 ρ M R):Ax (Di ft) q1 q2 ρ M R:=by simp only[Ax,Di,h];exact k
def iL{ft:af_}{q1 q2:WS}{ρ:Ad}{R:q!}(h:xF!)(k:hd!):Ax (Di ft) q1 q2 ρ M R:=by simp only[Ax,Di,h];exact k
def aY:(fT (f2 Bc bx! (fC oJ!))) [A!,d9!,some ee!]=some ke!:=by
 have e:Ai ee! G_=some T!:=by
  show oK!;unfold Db Eg;simp
 simp[fT,f2,Aa,fC,e,fZ]
def ix1:Ai oK_ aS!=some a:=by show Db (D.str k::a::r) 1=_;unfold Db Eg;rw[aX_,oL!];simp
def ix2:Ai oL_ bt_=some b:=by show Db (D.str k::a::b::r) 2=_;unfold Db Eg;rw[aX_,oL!];simp
def ix3:Ai oM! aB_=some c:=by show Db (D.str k::a::b::c::r) 3=_;unfold Db Eg;rw[aX_,oL!];simp
def ax1:f2 Ai w! t_ [A!,d9!,some oK_]=some a:=ix1
def ax2:f2 Ai w! U_ [A!,d9!,some oL_]=some b:=ix2
def ax3:f2 Ai w! at! [A!,d9!,some oM!]=some c:=ix3
def av0:Aa 0 xG_=some aw_:=rfl
def av1:Aa 1 xG_=some n:=rfl
def gG{f:WE}{ρ:Ad}{R:q!}(k:f ρ M λ_ M1=>R am_ M1):Bk f ρ M R:=k
def vX{g:WF}{fo f1 f2 f3:d_}{ρ:Ad}(h0:fo ρ=some d)(B:fc_)(Y:fd!)(h3:kf!)(ho:kU_)(k:g [d,a,b,c] M R):Bb C m 4 g ce! (Ab jM! xH!) ρ M R:=by simp only[Bb,wl,Ab,Af,h0,B,Y,h3];exact ob!
def d1d{g:WF}{fo f1 f2 f3 f4:d_}{ρ:Ad}(h0:fo ρ=some d)(B:fc_)(Y:fd!)(h3:kf!)(h4:f4 ρ=some e)(ho:kU_)(k:g [d,a,b,c,e] M R):Bb C m 5 g ce! xK! ρ M R:=by simp only[Bb,wl,Ab,Af,h0,B,Y,h3,h4];exact ob!
def c2t{h m:Int}(hO:aF!)(w:dp!)(hn:xu!)(hs:Ra W kd! d W')(hB:gL_)
  (hR:∀M' af,Cc t M' o af W' a8!->Fr M rl M' af->R .non M'):Nc t [aU!,.tup cg_,d] M R:=by
 have zq:=hO;obtain⟨a1,a2,a3,a4,a5,a6,k1,k2,k3,k4,k5,k6,hA⟩:=zq;have fresh:∀x∈W.its,∀k':Nat,D.tup [aV_,d3!,.int (k':Nat)]∉(aE_).map b!:=λx L k' z=>by
  obtain⟨q,hq,e⟩:=HB.mp z;show"!^";rw[e']at e;cases e;exact hn hm
 refine m_;cases hs with
 |put ha O hg=>
  show"!1";obtain⟨kb,k8⟩:=uW O;refine ifT (aY.trans (congrArg some b9p)) ?_;exact gG (vX av0 av1 ax1 ax2 (hA.noOb oM4) (c6q hO w.inv (λz=>hn (w.its _ z)) bz! bm k8 hB hg hR))
 |mvY ha O a7 hc hg=>
  show"!J";exact gG (vX av0 ax1 ax2 ax3 kf_ (uC hO w.inv bm k8 zr hB λM' f1 _ fr=>hR M' rl (f1 hc _ hg) fr))
 |mvN ha O a7 hc=>
  show"!J";exact gG (vX av0 ax1 ax2 ax3 kf_ (uC hO w.inv bm k8 zr hB λM' _ f1 fr=>hR M' rl (f1 hc) fr))
 |drY ha hc hg=>
  show"!|";exact gG (vX av0 ax1 rfl rfl kf_ (uC hO w.inv bm (kx:=oM_) rfl (ks:=none) rfl hB λM' f1 _ fr=>hR M' rl (f1 hc _ hg) fr))
 |drN ha hc=>
  show"!|";exact gG (vX av0 ax1 rfl rfl kf_ (uC hO w.inv bm (kx:=oM_) rfl (ks:=none) rfl hB λM' _ f1 fr=>hR M' rl (f1 hc) fr))
 |wrt ha O c9 e=>
  cases e;show"!1";obtain⟨kb,k8⟩:=b4c O;refine iL (aY.trans (congrArg some jZ)) ?_;refine iL (aY.trans (congrArg some iW)) ?_;refine iL (aY.trans (congrArg some iX)) ?_;refine ifT (aY.trans (congrArg some a6v)) ?_;exact gG (d1d av0 av1 ax1 ax2 ax3 (hA.noOb oM7) (b5z hO w.inv bm k8 hB c9 fresh λM' f1 _ fr=>hR M' rl f1 fr))
 |cut ha b5 B Y=>
  show"!1";refine iL (aY.trans (congrArg some oA)) ?_;refine iL (aY.trans (congrArg some lM)) ?_;refine iL (aY.trans (congrArg some lO)) ?_;refine iL (aY.trans (congrArg some kB)) ?_;refine ifT (aY.trans (congrArg some b9q)) ?_;exact gG (vX av0 ax1 ax2 ax3 (hA.noOb oM8) (c9g hO w.inv bm hB b5 B Y λM' f1 fr=>hR M' rl f1 fr))
 |set ha B Y=>
  show"!1";refine iL (aY.trans (congrArg some nX)) ?_;refine iL (aY.trans (congrArg some lK)) ?_;refine iL (aY.trans (congrArg some lL)) ?_;refine iL (aY.trans (congrArg some kA)) ?_;refine iL (aY.trans (congrArg some nZ)) ?_;refine ifT (aY.trans (congrArg some b9o)) ?_;exact gG (vX av0 ax1 ax2 ax3 (hA.noOb oM9) (xO hO w.inv bm B Y λM' f1 fr=>hR M' rl (f1.mono a!) fr))
def c2u{k:Str}(hk:xP!)(hR:R .non M):Nc t [aU!,n,.tup oN!] M R:=by
 refine m_;obtain rfl|rfl:=hk
 .refine iL (aY.trans (congrArg some sQ)) ?_;refine iL (aY.trans (congrArg some pM)) ?_;refine iL (aY.trans (congrArg some pN)) ?_;refine iL (aY.trans (congrArg some nG)) ?_;refine iL (aY.trans (congrArg some sR)) ?_;refine iL (aY.trans (congrArg some a6p)) ?_;exact hR
 .refine iL (aY.trans (congrArg some sS)) ?_;refine iL (aY.trans (congrArg some pO)) ?_;refine iL (aY.trans (congrArg some pP)) ?_;refine iL (aY.trans (congrArg some nH)) ?_;refine iL (aY.trans (congrArg some sT)) ?_;refine iL (aY.trans (congrArg some a6s)) ?_;exact hR
def cW{bnd:ad_}{ck:cN!}{ft:WT}{fe:WE}{ρ:Ad}(b:D->Bool)(y:D->D)(ik:ck M):∀(ds:b_) (R:o7!),
  (∀d∈ds,∃ai,bnd d ρ=some ai/\(∀K:Bool->Mh->Prop,K (b d) M->ft ai M K)/\(b d=true->∀K:D->Mh->Prop,K (y d) M->fe ai M K))->R ((ds.filter b).map y) M->Qv bnd ck ft fe ρ ds M R
 |[],R,_,hR=>⟨ik,hR⟩
 |d::ds,R,h,hR=>by
  obtain⟨ai,e1,e2,e3⟩:=h d GO;refine⟨ik,?_⟩;rw[e1];refine e2 _ ?_;cases O:b d with
  |true=>
   refine e3 O _ (cW b y ik ds _ xQ! ?_);rw[IT O]at hR;exact hR
  |false=>
   refine cW b y ik ds _ xQ! ?_;rw[IU (by simp[O])]at hR;exact hR
def Ug(W:OW)(x:D):List dV!:=(aE_).filter (·.2.2)
def a4u(hO:aF!)(w:Bx W)(L:b9!)(hB:hb<4000)(hR:R (.lst oP!) M):Do t e5_ M R:=by
 obtain⟨a1,a2,a3,a4,a5,a6,k1,k2,k3,k4,k5,k6,hA⟩:=hO;obtain⟨e3,h3⟩:=hA.d3;obtain⟨e6,h6⟩:=hA.d6;obtain⟨k,hk⟩:=(w.nm x L).key;obtain⟨r,f,p,g1,g2,g3,g4,g5⟩:=hA.txt x L;have lt:=hA.lt x L;refine m_;have ug:∀R',w2 Bt eD_ u! kg_ M R'=R' a6_ M:=by
  intro R';simp[w2,wl,As,Gz,hA.ob,oF3,Bt,h3,hk,g1,Dw,Aa]
 show Bf (Ca 1 [0] _ _ _ _) kg_ M _;simp only[Bf,Ca,Cp,Bb,ug,Af];refine⟨by simp only[De,g2.ob,rM.2.2.1,and_self],rfl,?_⟩;refine zM g2 bd_ (b1f w L) ?_;refine dq!;refine cW (λd=>!(kget k6 d).isSome) id trivial _ _ bQ! ?_
 .show"!E";obtain⟨kq,uk⟩:=(vg_).key;refine⟨[some q.1,A!],rfl,hd_,xU!⟩;simpa[wT,w2,wl,As,Gz,Aa,Dw,hA.ob,oF6,Ir,h6,uk]using hK
 .have e:((nq!).filter λd=>!(kget k6 d).isSome).map id=(dp_).map b!:=by
   rw[List.map_id];rw[MO];congr 1;apply LA;intro q hq;simp only[Function.comp];rw[hA.hi x L q hq];simp
  rw[e];exact hR
def a8p(hO:aF!)(w:Bx W)(L:b9!)(hB:hb<4000)(hj:xU_)(hR:R v M):Es t e5_ M R:=by
 have zq:=hO;obtain⟨a1,a2,a3,a4,a5,a6,k1,k2,k3,k4,k5,k6,hA⟩:=zq;obtain⟨e5,h5⟩:=hA.d5;have lt:=hA.lt x L;refine m_;show Bf (Pr _ (Ca 1 [0] r7! _ _ _)) kg_ M _;simp only[Bf,Pr,Ca,Cp];have hm:∀(K:v_),K (.lst oP!) M->Bb t.B4 "signs_of" 2 (Do t) i! b0_ kg_ M K:=λK hK=>⟨hA.noOb d2i,rfl,a4u hO w L hB hK⟩;refine hm _ ?_;have ls:(dp_).length<=(aE_).length:=LP _ _;refine dq!;refine cW fm! (λd=>(kget k5 d).getD .non) trivial _ _ bQ! ?_
 .show"!E";have a8:=(oR!).1;obtain⟨kq,uk⟩:=(w.sg x L q a8).key;refine⟨[some q.1,A!],rfl,he!,dq_⟩;simpa[w2,wl,As,Gz,Aa,Dw,hA.ob,oF5,Bt,h5,uk,hA.wr x L q a8]using hK
 .have e:(((oP!).filter λ_=>true).map λd=>(kget k5 d).getD .non)=(dp_).map kh_:=by
   rw[ki_,II];apply IQ;intro q hq;simp only[Function.comp];rw[hA.wr x L q (oR!).1];rfl
  rw[e];rw[hj];exact hR
end
structure Op where
 h:Int
 n:Int
 tm:Int
 d:D
nonrec def Op.v(o:Op):D:=.tup kj_
nonrec def Op.nm(o:Op):D:=.tup [he_,.int o.n]
nonrec def Op.key(o:Op):Int×Int:=(o.tm,o.h)
def Gk:D->Option cf_
 |.tup [.str k,a]=>if oS_ then some (k,a)else none
 |_=>none
def lZ(k:Str)(a:D):Gk (.tup oN!)=if oS_ then some (k,a)else none:=rfl
def uI(h:DG d):(∃k a,d=.tup oN!/\xW!/\NameG a/\Gk d=some (k,a))\/(∃k r,d=.tup cH_/\hf!=false/\(k=="redo")=false/\Gk d=none):=by
 have uu:oT!=true:=by decide+kernel
 have rr:oT_=true:=by decide+kernel
 cases h with
 |put B Y=>exact .inr ⟨_,_,rfl,sU,sV,rfl⟩
 |move B Y h3=>exact .inr ⟨_,_,rfl,a2x,a2y,rfl⟩
 |drop B=>
  refine .inr ⟨_,_,rfl,a2z,a3a,?_⟩;rfl
 |write B Y h3 h4 h5=>exact .inr ⟨_,_,rfl,yK,yL,rfl⟩
 |cut B Y h3 h4=>exact .inr ⟨_,_,rfl,a6t,a6u,rfl⟩
 |set B Y h3 h4=>exact .inr ⟨_,_,rfl,a6q,a6r,rfl⟩
 |undo B=>
  refine .inl ⟨_,_,rfl,cT!,B,?_⟩;rfl
 |redo B=>
  refine .inl ⟨_,_,rfl,.inr rfl,B,?_⟩;rfl
def a3e(o:Op):Df [o.v]=some xX_:=by simp[Df,Kf,Op.v,Cd,Bh,Av,Ac,Ag,f2,Aa,fC,Ai,Db,Eg]
def wN:∀ops:List Op,Nb Df cJ_=some oU!
 |[]=>rfl
 |o::r=>by
  rw[GM];unfold Nb;rw[a3e,wN r];rfl
def d1g(o:Op):Ik Df o.v=o.key:=by unfold Ik;rw[a3e];rfl
def a7d{α β:Type}{f:k6_}{k:α->Int×Int}{k':β->Int×Int}(h:xY_)(x:α):∀l:List α,Qu k' (f x) hJ_=(Qu k x l).map f
 |[]=>rfl
 |y::r=>by
  simp only[GM,Qu,h];split
  .rfl
  .rw[a7d h x r];rfl
def uU{α β:Type}{f:k6_}{k:α->Int×Int}{k':β->Int×Int}(h:xY_):∀l:List α,Jb k' hJ_=(Jb k l).map f
 |[]=>rfl
 |x::r=>by rw[GM];unfold Jb;rw[uU h r,a7d h]
abbrev Ih(ops:o!):List Op:=Jb Op.key ops
def lS{ops:o!}(nd:ee_)(hl:ef!):Dh ch!=some (.lst hf_):=by
 have e:Ze Df cJ_=some hf_:=by
  unfold Ze;rw[wN];show(if(oU!).Nodup/\(cJ_).length<64 then some _ else none)=_;rw[GU ⟨nd,kq_⟩,uU d1g]
 simp[Dh,Qn,Cd,Bh,Uo,Aa,e]
def sF{a b:o!}(h:a.Perm b)(nd:x0!):Ih a=Ih b:=
 oP (iZ nd) (iZ ((h.map _).nodup_iff.mp nd)) ((cK a).trans (h.trans (cK b).symm))
def b6n{a:o!}(nd:x0!):Ih (Ih a)=Ih a:=sF (cK a) (((cK a).map _).nodup_iff.mpr nd)
def c5h{o:Op}(h:DG o.d):Az [o.v]=some oU_:=by
 have e3:Ai o.v aB_=some o.d:=by
  simp[Op.v,Ai,Db,Eg]
 have main:∀(k:Str) (r:b_),o.d=.tup cH_->Az [o.v]=some (.bl oS_):=λk r e=>by
  have e0:Ai ee! G_=some T!:=by
   show oK!;unfold Db Eg;simp
  have e1:∀s:Str,f2 Bc iw! (fC a8_) [Y_]=some (.bl (k==s)):=λs=>by
   show(oV!).bind x1_=_;rw[e3,e];show((Ai ee! G_)).bind x1_=_;rw[e0];exact fZ k s
  show(match Bh (Ev _ _) [Y_]with|some (.rt d)=>some d|some (.nx _)=>some .non|none=>none)=_;unfold Bh Ev fT;rw[e1,e1];cases (k==Str.ofString "undo")<;>rfl
 obtain⟨k,a,e,hk,_,hu⟩|⟨k,r,e,B,Y,hu⟩:=uI h
 .rw[main k [a] e,hu];obtain rfl|rfl:=hk
  .rw[x2!];rfl
  .rw[x2_,a2w];rfl
 .rw[main k r e,hu,B,Y];rfl
def Nh(f:Str->D):List Op->List ay_->List ay_
 |[],acc=>acc
 |o::os,acc=>match Gk o.d with
  |some (k,a)=>Nh f os (Aq acc a (f k))
  |none=>Nh f os acc
def uP:∀(os:o!) (A hb:g!),(∀x,(kget A x=none/\kget hb x=none)\/∃k:Str,kget A x=some T!/\kget hb x=some fo!)->
  ∀x,(kget x3! x=none/\kget x3_ x=none)\/∃k:Str,kget x3! x=some T!/\kget x3_ x=some fo!
 |[],A,hb,h=>h
 |o::os,A,hb,h=>by
  unfold Nh;cases e:Gk o.d with
  |none=>exact uP os A hb h
  |some q=>
   obtain⟨k,a⟩:=q;refine uP os _ _ λx=>?_;by_cases c:a=x
   .subst c;rw[dG,dG];exact .inr ⟨k,rfl,rfl⟩
   .rw[dM c,dM c];exact h x
section
variable{t:Aw}{M:Mh}{R:D->Mh->Prop}
def gD{kvs:g!}{ep:Nat}(h:bO_)(hk:ch_)(hl:dt_):Kn M x! y v=some hz_:=by simp[Kn,h,hk,hl]
def zI(h:NameG x):∃k,Dm x=some k:=by obtain⟨a,b,rfl,_⟩:=h;exact H_
def d1v:Aa 1 oX!=some x!:=rfl
def a2a:∀(os:o!) (x1:D) (y:ac_) (acc:g!) (ep:Nat) (M:Mh) (R:q!),kk_->cl!+aP_<1000->M p=some oX_->
  (∀M' bd y',M' p=some (.dct x4! bd)->fo_->R x4_ M')->
  Fx bf! I_ sa! aI! oX! M R
 |[],x1,y,acc,ep,M,R,_,_,hp,hR=>x5_
 |o::os,x1,y,acc,ep,M,R,hd,hl,hp,hR=>by
  refine aO!;show Ax (Di _) _ _ bQ_ M _;have ho:=hd o GO;have et:fT (f1 Az c3!) bQ_=some (Gk o.d).isSome:=by
   have e:f1 Az c3! bQ_=some oU_:=c5h ho;unfold fT;rw[e];rfl
  simp only[GS]at hl;have e3:Ai o.v aB_=some o.d:=by simp[Op.v,Ai,Db,Eg]
  obtain⟨k,a,e,hk,iu,hu⟩|⟨k,r,e,B,Y,hu⟩:=uI ho
  .rw[hu]at et;refine ifT et ?_;obtain⟨ka,kh⟩:=zI iu;have i0:f2 Ai a1_ C_ bQ_=some T!:=by
    show oV!=_;rw[e3,e];show Db [D.str k,a] 0=_;simp[Db,Eg]
   have i1:f2 Ai a1_ t_ bQ_=some a:=by
    show x6!;rw[e3,e];show Db [D.str k,a] 1=_;simp[Db,Eg]
   have gu:Kn M x! a T!=some x6_:=by
    exact gD hp kh dm_
   have:=a2a (p:=p) os x1 eg! (Aq acc a T!) (Ge acc a ep) x6_ R fp! (by have:=kput_len acc a T!;omega) mup_same (λM' bd y' B Y=>hR M' bd y' x7! λb O=>(Y b O).trans fp_);simp only[By,wl,i0,i1,d1v,gu,Dw];exact this
  .rw[hu]at et;refine iL et ?_;exact a2a (p:=p) os x1 eg! acc ep M R fp! a! hp x8!
def a3m{f:d_}{ρ:Ad}(h:f ρ=some cD_):Eu f ρ=some ds:=by unfold Eu;rw[h];rfl
def xY{ops:o!}(nd:ee_)(hl:ef!)(hd:hh!)
  (hR:∀p M' ep,M p=none->M' p=some (.dct hh_ ep)->fo_->R x! M'):Gg ch! M R:=by
 refine m_;intro p hp;have hi:Eu ix_ oY!=some hf_:=a3m (lS nd hl);have br:(aX!).Perm ops:=cK ops;have:=a2a (p:=p) aX! hi! none [] 0 du! (λr M1=>match r with|.nx ai=>Bf u! ai M1 gH!|.rt d=>R d M1) x8_ x9_ mup_same x9!;show Ah (Dk (Kt _) _ _) _ oY! _ _;simp only[Ah,Dk,Kt,hi,Dw];exact this
def t2{g:aW!}{fa:WE}{fb:d_}{ρ:Ad}{K:fu_}{b:Bool}(ha:∀K':D->Mh->Prop,K' d M->fa ρ M K')(O:fb ρ=some v)(hg:g d v=some bI!)(k:K b M):wT (w2 pb! fa hj!) ρ M K:=by refine ha _ ?_;simp only[wl,O,hg];exact k
def Undn(wd:g!)(o:Op):Prop:=Gk o.d=none/\kget wd o.nm=some b1_
def b6p(o:Op):Bi o.v none (some 2)=some o.nm:=by simp[Op.v,Op.nm,Bi,Da,HT.sIx]
def a9v(o:Op):∃k,Dm o.nm=some k:=H_
def b1e{e0:Nat}(qi:p≠q):∀(os:o!) (x1:D) (y z:ac_) (acc:g!) (ep:Nat) (M:Mh) (R:q!),kk_->cl!+aP_<1000->M p=some (.dct wd e0)->M q=some oX_->(∀x v,kget wd x=some v->∃k:Str,v=.str k)->
  (∀M' bd y' z' de,M' q=some (.dct de bd)->(∀x,kget de x≠none↔(kget acc x≠none\/∃o∈os,o.nm=x/\Undn wd o))->ya!->R (.nx [G!,I!,ao_,y',z']) M')->
  Fx V_ I_ iz! aI! [G!,I!,ao_,y,z] M R
 |[],x1,y,z,acc,ep,M,R,_,_,hp,hq,k9,hR=>⟨trivial,hR M ep y z acc hq uO_ λb _=>rfl⟩
 |o::os,x1,y,z,acc,ep,M,R,hd,hl,hp,hq,k9,hR=>by
  refine aO!;show Ah (An 4 _) _ yd! M _;have ho:=hd o GO;simp only[GS]at hl;have es:Ep F_ Au cY_ yd!=some o.nm:=b6p o;simp only[Ah,An,wl,es];show Ax _ _ _ ds! M _;have et:Co sa_ ds!=some (!(Gk o.d).isSome):=by
   have e:f1 Az iy! ds!=some oU_:=c5h ho;unfold Co fT;rw[e];rfl
  obtain⟨kn,f7⟩:=a9v o;have next:∀(c:Prop),(c↔Undn wd o)->∀de bd M',M' q=some (.dct de bd)->(∀x,kget de x≠none↔(kget acc x≠none\/(x=o.nm/\c)))->de.length<=cl!+1->ya!->
    Fx V_ I_ iz! aI! ds! M' R:=λc hc de bd M' B Y h3 h4=>by
   refine b1e (p:=p) (q:=q) (wd:=wd) (e0:=e0) qi os x1 _ _ de bd M' R fp! a! ((h4 p qi).trans hp) B k9 λM2 sw y2 z2 Z1 g1 g2 g3=>hR M2 sw y2 z2 Z1 g1 oZ! λb O=>(g3 b O).trans (h4 b O);rw[g2,Y];show"!O"
   .rintro((u|⟨u1,u2⟩)|⟨o',u1,u2,u3⟩)
    .exact .inl u
    .exact .inr ⟨o,GO,u1.symm,hc.mp u2⟩
    .exact .inr ⟨o',GI _ u1,u2,u3⟩
   .rintro(u|⟨o',u1,u2,u3⟩)
    .exact .inl (.inl u)
    .obtain rfl|u1:=GJ.mp u1
     .exact .inl (.inr ⟨u2.symm,hc.mpr u3⟩)
     .exact .inr ⟨o',u1,u2,u3⟩
  have no:(¬Undn wd o)->Fx V_ I_ iz! aI! ds! M R:=λh=>next False (by simp[h]) acc ep M hq uO_ a! λb _=>rfl;cases hu:Gk o.d with
  |some u=>
   rw[hu]at et;simp only[Ax,Gs,Di,et];exact no λz=>by rw[z.1]at hu;cases hu
  |none=>
   rw[hu]at et;simp only[Ax,Gs,Di,et];have hg:∀(K:v_),K ye_ M->Oe u! aj! ds! M K:=λK hK=>by
    have c1:Ek M x!=some (p,wd,e0):=by simp[Ek,hp]
    show Dw (Ek M x!) λ_=>Dw (Ek M x!) λq=>Dw (Dm o.nm) λ_=>K ((kget q.2.1 o.nm).getD .non) M;rw[c1,f7];exact hK
   have Z2:Sd ye_:=by
    cases e:kget wd o.nm with
    |none=>exact .inl rfl
    |some v=>obtain⟨k,rfl⟩:=k9 _ _ e;exact hJ k
   have VD:(o0!).getD .non=.str "undo"↔Undn wd o:=by
    unfold Undn;rw[hu];cases e:kget wd o.nm with
    |none=>simp
    |some v=>simp
   refine t2 hg (v:=ol!) rfl (pZ Z2 (hJ _)) ?_;by_cases c:(o0!).getD .non=.str "undo"
   .rw[HN c];have gu:=gD (y:=o.nm) (v:=h8_) hq f7 dm_;have f2:Aa 2 ds!=some bj_:=rfl;have f4:Aa 4 ds!=some o.nm:=rfl;simp only[By,wl,fC,f2,f4,gu,Dw];refine next True (by simp[<-VD,c]) _ _ _ mup_same oZ! dU_ λb O=>mup_ne O;by_cases e:o.nm=x
    .subst e;rw[dG];simp
    .rw[dM e];simp[GN e]
   .rw[GZ c];exact no λz=>c (VD.mpr z)
def a0j:∀(os:o!) (acc:g!),(∀x v,kget acc x=some v->∃k:Str,v=.str k)->∀x v,kget x4! x=some v->∃k:Str,v=.str k
 |[],acc,h=>h
 |o::os,acc,h=>by
  unfold Nh;cases e:Gk o.d with
  |none=>exact a0j os acc h
  |some q=>
   obtain⟨k,a⟩:=q;refine a0j os _ λx v L=>?_;by_cases c:a=x
   .subst c;rw[dG]at L;cases L;exact⟨k,rfl⟩
   .rw[dM c]at L;exact h x v L
def b3w{ops:o!}(nd:ee_)(hl:ef!)(hd:hh!)
  (hR:∀q M' ep kq,M q=none->M' q=some (.dct kq ep)->(∀x,kget kq x≠none↔∃o∈ops,o.nm=x/\Undn hh_ o)->km_->R bj_ M'):Lk ch! M R:=by
 refine m_;have hc:∀(K:v_),Gg ch! M K->Ao 1 Gg bw_ yg! M K:=λK h=>b8_;refine hc _ (xY nd hl hd λp M1 ep hp hM1 fr=>?_);intro q hq;have qi:p≠q:=λz=>by rw[<-z,hM1]at hq;cases hq
 have ou:M q=none:=by rw[<-fr q (GN qi)];exact hq
 have hi:Eu n! [eg_,I!,ao_,none,none]=some cJ_:=rfl;refine b1e (wd:=o1!) (e0:=ep) qi ops hi! none none [] 0 _ _ hd bd_ ((mup_ne qi).trans hM1) mup_same (a0j _ [] λx v h=>by simp[kget]at h) λM' bd y' z' de B Y h3=>?_;refine hR q M' bd de ou B oZ! λb O=>?_
 .rw[Y];simp[kget]
 .have b1:b≠q:=λz=>O (by rw[z];exact ou);have b2:b≠p:=λz=>O (by rw[z];exact hp);rw[h3 b b1,mup_ne b1,fr b b2]
end
def W0:OW:=⟨[],[],λ_=>[],λ_=>[]⟩
def b3r:Rh W0 []:=by refine⟨⟨by simp[W0],ds_,by simp[W0],λx=>by simp[W0],yh_,⟨λ_=>0,yh_⟩,ds_,ds_,ds_,ds_⟩,ds_,ds_,ds_⟩
section
variable{t:Aw}{M:Mh}{R:D->Mh->Prop}
def cQ(f:Str)(v:D):∀l:List cf_,(Bl f v l).length<=O!+1
 |[]=>by simp[Bl]
 |(g,x)::r=>by
  unfold Bl;split
  .simp
  .have:=cQ f v r;simp;omega
def Kp(o:xh!)(M M':Mh):Prop:=∀c,M c≠none->c≠o->M' c=M c
def Kp.trans{M M1 M2:Mh}(a:Kp o M M1)(b:Kp o M1 M2):Kp o M M2:=λc B Y=>by
 have e:=a c B Y;rw[b c (by rw[e];exact B) Y,e]
def qC{fs:aP!}{R:q!}(ho:M o=some gY!)(hl:bq!<100)
  (hR:∀a M',M a=none->M' a=some E_->M' o=some (.obj C (Bl x dg_ fs))->Kp o M M'->(∀c,M' c≠none->M c≠none\/c=a)->R (.nx [A!]) M'):Ea C x i! Fg [A!] M R:=by
 intro a ha;have oa:o≠a:=λz=>by rw[<-z,ho]at ha;cases ha
 have e:Ay M a E_ o=some gY!:=(mup_ne oa).trans ho;have f0:Aa 0 [A!]=some aw_:=rfl;simp only[wl,f0,e];refine⟨trivial,hl,hR a _ ha ((mup_ne (GN oa)).trans mup_same) mup_same (λc B Y=>?_) λc hc=>?_⟩
 .rw[cB_,mup_ne λz=>B (by rw[z];exact ha)]
 .by_cases c1:c=a
  .exact .inr c1
  .by_cases c2:c=o
   .rw[c2,ho];exact .inl c_
   .rw[kn_,mup_ne c1]at hc;exact .inl hc
def pc{fa:d_}{fb:WE}{fp:WP}{ρ:Ad}{R:zh_}(h:o1_)(k:fb ρ M λy M2=>fp ρ M2 λkvs M3=>R ((x,y)::kvs) M3):Em eh_ fb fp ρ M R:=by simp only[Em,wl,h];exact k
def a1y{ρ:Ad}(hR:∀o rl M',M o=none->Cc t M' o rl W0 2->o2!->R aw_ M'):Hs t.B4 1 (Hy t) Af ρ M R:=by
 refine⟨rfl,λo ho=>m_⟩;have f0:Aa 0 [A!]=some aw_:=rfl;show Ah (Ea t.B4 "parents" _ _) _ [A!] yi_ _;intro a1 wp;have jw:a1≠o:=λz=>by rw[z,mup_same]at wp;cases wp
 rw[mup_ne jw]at wp;refine⟨mup_same,W!,hl!,?_,?_⟩
 .obtain rfl|hq:=GJ.mp hq
  .rfl
  .rw[ko!];rfl
 .show yj!;rw[HA];exact yj_
 have e1:Ay yk! a1 yk_ o=some yi!:=by rw[yl!,yl!,mup_same]
 simp only[wl,f0];rw[e1];refine⟨rfl,W!,?_⟩;generalize wu:Ay (Ay yk! a1 yk_) o o3!=S1;have qj:S1 o=some o3!:=by rw[<-wu,mup_same]
 have qk:S1 a1=some (.dct ko_ 2):=by rw[<-wu,mup_ne jw,mup_same];rfl
 have Z3:∀c,c≠o->c≠a1->S1 c=M c:=λc B Y=>by rw[<-wu,ca!,cB_,cB_,ca!]
 clear wu e1;intro a2 ql;have jx:a2≠o:=λz=>by rw[z,qj]at ql;cases ql
 refine pc rfl ?_;refine pE λr1 f1 p1 N1 z1 z2 z3 _ _ R1 K1=>?_;refine pc rfl ?_;refine pE λr2 f2 p2 N2 y1 y2 y3 _ _ R2 K2=>?_;have l1:∀c,Ay S1 a2 E_ c≠none->N1 c=Ay S1 a2 E_ c:=λc hc=>K1 c (aS hc z1) (aS hc z2) (aS hc z3);have l2:∀c,N1 c≠none->N2 c=N1 c:=λc hc=>K2 c (aS hc y1) (aS hc y2) (aS hc y3);have zt:N1 a2=some E_:=by rw[l1 a2 hm!,mup_same]
 have Z4:N2 a2=some E_:=by rw[l2 a2 (by rw[zt];simp),zt]
 have zu:N1 o=S1 o:=by rw[l1 o (by rw[kp_,qj];simp),kp_]
 have Z5:N2 o=S1 o:=by rw[l2 o ym!,zu]
 refine⟨Z4,H!,hl!,?_,?_⟩
 .obtain rfl|hq:=GJ.mp hq
  .rfl
  .rw[ko!];rfl
 .show yj!;rw[HA];exact yj_
 have e2:Ay N2 a2 ym_ o=some o3!:=by rw[kp_,Z5,qj]
 simp only[wl,f0];rw[e2];refine⟨rfl,by have:=cQ dX_ fr_ [];simp at this;omega,?_⟩;generalize wv:Ay (Ay N2 a2 ym_) o yn!=S2;have VE:S2 o=some yn!:=by rw[<-wv,mup_same]
 have zw:S2 a2=some (.dct kq! 2):=by rw[<-wv,mup_ne jx,mup_same];rfl
 have ul:∀c,c≠o->c≠a2->S2 c=N2 c:=λc B Y=>by rw[<-wv,ca!,cB_]
 clear wv e2;have ow:∀c,N1 c≠none->c≠r2/\c≠f2/\c≠p2:=λc hc=>⟨aS hc y1,aS hc y2,aS hc y3⟩;have v1:=R1.live;have v2:=R2.live;have nr:∀c,Ay S1 a2 E_ c≠none->c≠r1/\c≠f1/\c≠p1:=λc hc=>⟨aS hc z1,aS hc z2,aS hc z3⟩;have so:Ay S1 a2 E_ o≠none:=by rw[kp_,qj];simp
 have sa:Ay S1 a2 E_ a2≠none:=by rw[mup_same];simp
 have zx:Kp o S1 S2:=λc hc h=>by
  have c2:c≠a2:=λz=>hc (by rw[z];exact ql);have s:Ay S1 a2 E_ c≠none:=by rw[kn_];exact hc
  have e:=l1 c s;rw[ul c h c2,l2 c (by rw[e];exact s),e,kn_]
 refine qC (x:=hn_) VE (by have:=cQ de! hm_ fs!;have:=cQ dX_ fr_ [];simp at this;omega) λa3 S3 q3 zy VF um w3=>?_;refine qC (x:=h4_) VF (by have:=cQ dY! kr! hn!;have:=cQ de! hm_ fs!;have:=cQ dX_ fr_ [];simp at this;omega) λa4 S4 q4 zz VG qm w4=>?_;refine qC (x:="written") VG (by have:=cQ e4_ (.fn a4) o5!;have:=cQ dY! kr! hn!;have:=cQ de! hm_ fs!;have:=cQ dX_ fr_ [];simp at this;omega) λa5 S5 q5 z6 VH ox w5=>?_;refine qC (x:="hidden") VH (by have:=cQ ny_ (.fn a5) yo_;have:=cQ e4_ (.fn a4) o5!;have:=cQ dY! kr! hn!;have:=cQ de! hm_ fs!;have:=cQ dX_ fr_ [];simp at this;omega) λa6 S6 q6 Z6 VI VJ w6=>?_;have hob:Bl ve_ (.fn a6) (Bl ny_ (.fn a5) yo_)=oF a1 a2 a3 a4 a5 a6:=by kernel_rfl
 have VL:=ox.trans VJ;have VM:=qm.trans VL;have ww:=um.trans VM;have VN:=zx.trans ww;have lo:∀{N:Mh} {c:xh!} {x:Oc},N c=some x->N c≠none:=λh=>by rw[h];simp
 have o3:a3≠o:=λz=>by rw[z,VE]at q3;cases q3
 have o4:a4≠o:=λz=>by rw[z,VF]at q4;cases q4
 have o5:a5≠o:=λz=>by rw[z,VG]at q5;cases q5
 have o6:a6≠o:=λz=>by rw[z,VH]at q6;cases q6
 have F1:S6 a1=some (.dct ko_ 2):=(VN a1 (lo qk) jw).trans qk;have F2:S6 a2=some (.dct kq! 2):=(ww a2 (lo zw) jx).trans zw;have F3:S6 a3=some E_:=(VM a3 (lo zy) o3).trans zy;have F4:S6 a4=some E_:=(VL a4 (lo zz) o4).trans zz;have F5:S6 a5=some E_:=(VJ a5 (lo z6) o5).trans z6;have F6:=Z6;have z7:∀c,N1 c≠none->c≠o->c≠a2->S6 c=N1 c:=λc hc B Y=>by
  have e:=l2 c hc;have e':=ul c B Y;rw[ww c (by rw[e',e];exact hc) B,e',e]
 have z8:∀c,N2 c≠none->c≠o->c≠a2->S6 c=N2 c:=λc hc B Y=>by
  have e':=ul c B Y;rw[ww c (by rw[e'];exact hc) B,e']
 have qo:=nr o so;have qq:=nr a2 sa;have Q1:El t S6 r1 f1 p1 []:=R1.keep (z7 _ v1.1 (GN qo.1) (GN qq.1)) (z7 _ v1.2.1 (GN qo.2.1) (GN qq.2.1)) (z7 _ v1.2.2 (GN qo.2.2) (GN qq.2.2));have mo:=ow o ym!;have ma:=ow a2 (lo zt);have Q2:El t S6 r2 f2 p2 []:=R2.keep (z8 _ v2.1 (GN mo.1) (GN ma.1)) (z8 _ v2.2.1 (GN mo.2.1) (GN ma.2.1)) (z8 _ v2.2.2 (GN mo.2.2) (GN ma.2.2))
 let rl:Addr->Od:=λc=>if c=o then .ob else if c=a1 then .par else if c=a2 then .rows else if c=a3 then .texts else if c=a4 then .nums else if c=a5 then .writ else if c=a6 then .hid else if c=r1 then .rO root else if c=f1 then .rF root else if c=p1 then .rP root else if c=r2 then .rO Bo else if c=f2 then .rF Bo else if c=p2 then .rP Bo else .oth
 have Z7:∀c,M c≠none->S6 c=M c/\c≠o/\c≠a1/\c≠a2/\c≠a3/\c≠a4/\c≠a5/\c≠a6/\v6!/\(c≠r2/\c≠f2/\c≠p2):=λc hc=>by
  have c0:c≠o:=aS hc ho;have c1:c≠a1:=aS hc wp;have s1:S1 c=M c:=Z3 c c0 c1;have uo:S1 c≠none:=by rw[s1];exact hc
  have c2:c≠a2:=aS uo ql;have s2:S2 c≠none:=by rw[zx c uo c0];exact uo
  have c3:c≠a3:=aS s2 q3;have s3:S3 c≠none:=by rw[um c s2 c0];exact s2
  have c4:c≠a4:=aS s3 q4;have s4:S4 c≠none:=by rw[qm c s3 c0];exact s3
  have c5:c≠a5:=aS s4 q5;have s5:S5 c≠none:=by rw[ox c s4 c0];exact s4
  have c6:c≠a6:=aS s5 q6;have sm:Ay S1 a2 E_ c≠none:=by rw[kn_];exact uo
  have n1:N1 c≠none:=by rw[l1 c sm];exact sm
  exact⟨(VN c uo c0).trans s1,c0,c1,c2,c3,c4,c5,c6,nr c sm,ow c n1⟩
 refine⟨trivial,hR o rl S6 ho ⟨a1,a2,a3,a4,a5,a6,ko_,kq!,[],[],[],[],?_⟩ λb O=>?_⟩
 .have g0:rl o=.ob:=GU rfl;have g1:rl a1=.par:=by show(if a1=o then _ else _)=_;rw[GL jw,l!]
  have VO:a2≠a1:=λz=>by rw[z,qk]at ql;cases ql
  have g2:rl a2=.rows:=by show(if a2=o then _ else _)=_;rw[GL jx,GL VO,l!]
  have z9:S2 a1≠none:=by rw[zx a1 (lo qk) jw];exact lo qk
  have F':S2 a2≠none:=lo zw;have Z8:=GN (aS z9 q3);have zn:=GN (aS F' q3);have g3:rl a3=.texts:=by show(if a3=o then _ else _)=_;rw[GL o3,GL Z8,GL zn,l!]
  have J':S3 a1≠none:=by rw[um a1 z9 jw];exact z9
  have N':S3 a2≠none:=by rw[um a2 F' jx];exact F'
  have QY:S3 a3≠none:=lo zy;have g4:rl a4=.nums:=by show(if a4=o then _ else _)=_;rw[GL o4,GL (GN (aS J' q4)),GL (GN (aS N' q4)),GL (GN (aS QY q4)),l!]
  have QZ:S4 a1≠none:=by rw[qm a1 J' jw];exact J'
  have RA:S4 a2≠none:=by rw[qm a2 N' jx];exact N'
  have RB:S4 a3≠none:=by rw[qm a3 QY o3];exact QY
  have RC:S4 a4≠none:=lo zz;have g5:rl a5=.writ:=by show(if a5=o then _ else _)=_;rw[GL o5,GL (GN (aS QZ q5)),GL (GN (aS RA q5)),GL (GN (aS RB q5)),GL (GN (aS RC q5)),l!]
  have Z9:S5 a1≠none:=by rw[ox a1 QZ jw];exact QZ
  have Z':S5 a2≠none:=by rw[ox a2 RA jx];exact RA
  have t53:S5 a3≠none:=by rw[ox a3 RB o3];exact RB
  have t54:S5 a4≠none:=by rw[ox a4 RC o4];exact RC
  have t55:S5 a5≠none:=lo z6;have g6:rl a6=.hid:=by show(if a6=o then _ else _)=_;rw[GL o6,GL (GN (aS Z9 q6)),GL (GN (aS Z' q6)),GL (GN (aS t53 q6)),GL (GN (aS t54 q6)),GL (GN (aS t55 q6)),l!]
  have VP:∀c,S2 c≠none->c≠o->c≠a3/\c≠a4/\c≠a5/\c≠a6:=λc Y co=>by
   have s3:S3 c≠none:=by rw[um c Y co];exact Y
   have s4:S4 c≠none:=by rw[qm c s3 co];exact s3
   have s5:S5 c≠none:=by rw[ox c s4 co];exact s4
   exact⟨aS Y q3,aS s3 q4,aS s4 q5,aS s5 q6⟩
  have u1:∀c,N1 c≠none->c≠o->c≠a2->S2 c≠none:=λc hc B Y=>by rw[ul c B Y,l2 c hc];exact hc
  have u2:∀c,N2 c≠none->c≠o->c≠a2->S2 c≠none:=λc hc B Y=>by rw[ul c B Y];exact hc
  have RD:Ay S1 a2 E_ a1≠none:=by rw[mup_ne (GN VO)];exact lo qk
  have RE:=nr a1 RD;have RF:=ow a1 (by rw[l1 a1 RD];exact RD);have RG:∀c,N1 c≠none->c≠o->c≠a1->c≠a2->rl c=if c=r1 then .rO root else if c=f1 then .rF root else if c=p1 then .rP root else if c=r2 then .rO Bo else if c=f2 then .rF Bo else if c=p2 then .rP Bo else .oth:=λc hc h0 B Y=>by
   obtain⟨x3,x4,x5,x6⟩:=VP c (u1 c hc h0 Y) h0;show"#'"
  have RH:∀c,N2 c≠none->c≠o->c≠a1->c≠a2->rl c=if c=r1 then .rO root else if c=f1 then .rF root else if c=p1 then .rP root else if c=r2 then .rO Bo else if c=f2 then .rF Bo else if c=p2 then .rP Bo else .oth:=λc hc h0 B Y=>by
   obtain⟨x3,x4,x5,x6⟩:=VP c (u2 c hc h0 Y) h0;show"#'"
  have h7:rl r1=.rO root:=by rw[RG r1 v1.1 (GN qo.1) (GN RE.1) (GN qq.1),l!]
  have h8:rl f1=.rF root:=by rw[RG f1 v1.2.1 (GN qo.2.1) (GN RE.2.1) (GN qq.2.1),GL (GN R1.rne.1),l!]
  have h9:rl p1=.rP root:=by rw[RG p1 v1.2.2 (GN qo.2.2) (GN RE.2.2) (GN qq.2.2),GL (GN R1.rne.2),GL (GN R1.ne),l!]
  have b1:=ow r1 v1.1;have b2:=ow f1 v1.2.1;have b3:=ow p1 v1.2.2;have h10:rl r2=.rO Bo:=by rw[RH r2 v2.1 (GN mo.1) (GN RF.1) (GN ma.1),GL (GN b1.1),GL (GN b2.1),GL (GN b3.1),l!]
  have h11:rl f2=.rF Bo:=by rw[RH f2 v2.2.1 (GN mo.2.1) (GN RF.2.1) (GN ma.2.1),GL (GN b1.2.1),GL (GN b2.2.1),GL (GN b3.2.1),GL (GN R2.rne.1),l!]
  have h12:rl p2=.rP Bo:=by rw[RH p2 v2.2.2 (GN mo.2.2) (GN RF.2.2) (GN ma.2.2),GL (GN b1.2.2),GL (GN b2.2.2),GL (GN b3.2.2),GL (GN R2.rne.2),GL (GN R2.ne),l!]
  have kr:kget o4! root=some (.fn r1):=by show ys_=_;rw[l!]
  have kb:kget o4! Bo=some (.fn r2):=by
   show yt!;rw[GL b1o,l!]
  have kr':kget o2_ root=some .non:=by show ys_=_;rw[l!]
  have kb':kget o2_ Bo=some .non:=by
   show yt!;rw[GL b1o,l!]
  exact{
      ob:=VI,d1:=⟨_,F1⟩,d2:=⟨_,F2⟩,d3:=⟨_,F3⟩,d4:=⟨_,F4⟩,d5:=⟨_,F5⟩,d6:=⟨_,F6⟩
      ro:=g0,r1:=g1,r2:=g2,r3:=g3,r4:=g4,r5:=g5,r6:=g6
      p0:=⟨kr',kb'⟩
      pr:=λi p h=>yh!
      row:=λx L=>by
       obtain L|rfl|rfl:=L
       .simp[W0]at L
       .exact⟨r1,f1,p1,kr,Q1,h7,h8,h9⟩
       .exact⟨r2,f2,p2,kb,Q2,h10,h11,h12⟩
      rown:=λx L=>by
       unfold Ff at L;rw[NB,NB]at L;show(if root=x then _ else(if Bo=x then _ else _))=_;rw[GL (GN L.2.1),GL (GN L.2.2)];rfl
      txt:=λx L=>fr!
      txtn:=λx _=>rfl
      num:=λx L=>fr!
      wr:=λx L=>fr!
      hi:=λx L=>fr!
      hk:=λs hs=>(by simp[kget]at hs)
      l1:=by simp,l2:=by simp,l3:=by simp,l4:=by simp,l5:=by simp,l6:=by simp,lr:=by simp[W0],lt:=λx L=>fr!
      live:=λc hc=>by
       by_cases y0:c=o
       .rw[y0];exact lo VI
       by_cases ud:c=a1
       .rw[ud];exact lo F1
       by_cases ue:c=a2
       .rw[ue];exact lo F2
       by_cases ky:c=a3
       .rw[ky];exact lo F3
       by_cases kz:c=a4
       .rw[kz];exact lo F4
       by_cases on:c=a5
       .rw[on];exact lo F5
       by_cases qh:c=a6
       .rw[qh];exact lo F6
       by_cases me:c=r1
       .rw[me];exact Q1.live.1
       by_cases VQ:c=f1
       .rw[VQ];exact Q1.live.2.1
       by_cases VR:c=p1
       .rw[VR];exact Q1.live.2.2
       by_cases VS:c=r2
       .rw[VS];exact Q2.live.1
       by_cases VT:c=f2
       .rw[VT];exact Q2.live.2.1
       by_cases VU:c=p2
       .rw[VU];exact Q2.live.2.2
       exfalso;apply hc;show o5_=_;rw[GL y0,GL ud,GL ue,GL ky,GL kz,GL on,GL qh,GL me,GL VQ,GL VR,GL VS,GL VT,GL VU]}
 .obtain⟨d1,d2,d3,d4,d5,d6,d7,d8,d9,RI⟩:=Z7 b O;refine⟨d1,?_⟩;show(if b=o then _ else _)=_;rw[GL d2,GL d3,GL d4,GL d5,GL d6,GL d7,GL d8,GL d9.1,GL d9.2.1,GL d9.2.2,GL RI.1,GL RI.2.1,GL RI.2.2]
end
def b8x{α β:Type}{f:k6_}:∀{l:J!},(hJ_).Nodup->∀{x y:α},x∈l->y∈l->f x=f y->x=y
 |[],_,_,_,h,_,_=>by cases h
 |a::l,nd,x,y,L,hy,e=>by
  rw[GM,HA]at nd;obtain B|B:=GJ.mp L<;>obtain Y|Y:=GJ.mp hy
  .rw[B,Y]
  .exact absurd (by rw[<-B,e];exact GP Y) nd.1
  .exact absurd (by rw[<-Y,<-e];exact GP B) nd.1
  .exact b8x nd.2 B Y e
inductive Uq:OW->List Op->OW->Prop
 |nil {W:OW}:Uq W [] W
 |cons {W W1 W2:OW} {o:Op} {os:o!}:Ra W o.nm o.d W1->Uq W1 os W2->Uq W hp! W2
def Pf(wd:g!)(os:o!):List Op:=os.filter λo=>decide (Gk o.d=none/\¬kget wd o.nm=some b1_)
section
variable{t:Aw}{M:Mh}{R:D->Mh->Prop}
def ED(t:Aw):WS:=Ah eG_ sm_
def b1w{e0:Nat}{ops:o!}(hq:∀x∈ops,kget kq x.nm≠none↔Undn wd x):∀(os:o!) (x1:D) (y z:ac_) (M:Mh) (rl:bM!) (W W':OW) (pre:b_) (hb:Nat) (R:q!),
  (∀x∈os,x∈ops/\DG x.d)->yy!->(ku!).Nodup->Cc t M o rl W hb->Rh W pre->Uq W o8! W'->hb+20*aP_<3900->M q=some (.dct kq e0)->rl q=.oth->
  (∀M' af y' z',Cc t M' o af W' o8_->o9!->Fr M rl M' af->R (.nx [G!,A!,ao_,y',z']) M')->
  Fx V_ I_ (ED t) aI! [G!,A!,ao_,y,z] M R
 |[],x1,y,z,M,rl,W,W',pre,hb,R,_,_,_,hO,w,hr,_,_,_,hR=>by
  cases hr;exact⟨trivial,hR M rl y z hO ⟨pre,w⟩ .refl⟩
 |x::os,x1,y,z,M,rl,W,W',pre,hb,R,hd,hp,nd,hO,w,hr,hB,ou,ju,hR=>by
  refine aO!;show Ah (An 4 _) _ yz! M _;obtain⟨L,jn⟩:=hd x GO;simp only[GS]at hB hR;rw[GM,HA]at nd;have es:Ep F_ Au cY_ yz!=some x.nm:=b6p x;obtain⟨kn,f7⟩:=a9v x;have ur:Ir true M x.nm bj_=some (.bl (!(kget kq x.nm).isSome)):=by simp[Ir,ou,f7]
  have f4:Aa 4 ej!=some x.nm:=rfl;have ut:Aa 2 ej!=some bj_:=rfl;have f1':Aa 1 ej!=some aw_:=rfl;have f3':f2 Ai F_ at! ej!=some x.d:=by
   show Ai x.v aB_=_;simp[Op.v,Ai,Db,Eg]
  show Ax sl_ _ _ ej! M _;simp only[Ax,wT,w2,wl,f4,ut,ur];have hu:=hq x L;have rest:∀(M1:Mh) (gf:bM!) (W1:OW) (wx:b_),Cc t M1 o gf W1 a8!->Rh W1 wx->(∀y∈os,y.nm∉wx)->Uq W1 o8! W'->Fr M rl M1 gf->Fx V_ I_ (ED t) aI! ej! M1 R:=λM1 gf W1 wx B Y h3 h4 h5=>
   b1w (o:=o) (q:=q) (kq:=kq) (wd:=wd) (e0:=e0) hq os x1 pa_ (some x.nm) M1 gf W1 W' wx a8! R pb_ h3 nd.2 B Y h4 a! ((yA!).1.trans ou) (yA!).2 (λM' af y' z' g1 g2 g3=>hR M' af y' z' (by rw[yA_];exact g1) g2 (h5.trans g3))
  by_cases c:kget kq x.nm=none
  .rw[c,GU dc!];have hc:∀(K:v_),Nc t [aU!,x.nm,x.d] M K->Ao 3 (Nc t) sm! ej! M K:=λK h=>by
    exact b8_
   refine gG (hc _ ?_);obtain⟨k,a,e,hk,_,wy⟩|⟨k,r,e,_,_,wy⟩:=uI jn
   .have:Pf wd hq!=Pf wd os:=by unfold Pf;rw[IU (by simp[wy])]
    rw[this]at hr;rw[e];exact c2u hk (rest M rl W pre nS_ w pc! hr .refl)
   .have b9:¬kget wd x.nm=some b1_:=λz=>absurd c (hu.mpr ⟨wy,z⟩);have:Pf wd hq!=x::Pf wd os:=by unfold Pf;rw[IT (by simp[wy,b9])]
    rw[this]at hr;cases hr with
    |cons hs hr=>
     have w1:=a0l hs w kw!;refine c2t hO w kw! hs a! λM1 gf B Y=>rest M1 gf _ _ B w1 yD! hr Y;obtain z|z:=GT.mp z
     .exact hp y dW_ z
     .rw[GY]at z;exact nd.1 yC_
  .have hU:=hu.mp c;obtain⟨v,hv⟩:=Option.ne_none_iff_exists'.mp c;rw[hv,av_];have:Pf wd hq!=Pf wd os:=by unfold Pf;rw[IU (by simp[hU.1,hU.2])]
   rw[this]at hr;exact rest M rl W pre nS_ w pc! hr .refl
def Cc.live{rl:bM!}{hb:Nat}(h:aF!)(O:rl b≠.oth):M b≠none:=by obtain⟨_,_,_,_,_,_,_,_,_,_,_,_,hA⟩:=h;exact hA.live b O
def Cc.keep{M':Mh}{rl:bM!}{hb:Nat}(hO:aF!)(k:yD_):Cc t M' o rl W hb:=by
 obtain⟨a1,a2,a3,a4,a5,a6,k1,k2,k3,k4,k5,k6,hA⟩:=hO;refine⟨a1,a2,a3,a4,a5,a6,k1,k2,k3,k4,k5,k6,{hA with ob:=?_,d1:=?_,d2:=?_,d3:=?_,d4:=?_,d5:=?_,d6:=?_,row:=?_,txt:=?_,num:=?_,live:=?_}⟩
 .rw[k o N_];exact hA.ob
 .rw[k a1 bM_];exact hA.d1
 .rw[k a2 ax!];exact hA.d2
 .rw[k a3 aU_];exact hA.d3
 .rw[k a4 aV!];exact hA.d4
 .rw[k a5 aN_];exact hA.d5
 .rw[k a6 ax_];exact hA.d6
 .intro x L;obtain⟨r',f',p',v1,v2,v3,v4,v5⟩:=hA.row x L;exact yF!
 .intro x L;obtain⟨r',f',p',v1,v2,v3,v4,v5⟩:=hA.txt x L;exact yF!
 .intro x L;obtain⟨q',v1,v2,v3⟩:=hA.num x L;exact⟨q',v1,(k _ bC!).trans v2,v3⟩
 .intro b O;rw[k b O];show"#,"
def b4m{ops:o!}(nd:ee_)(nn:yG!)(hl:ef!)(hd:hh!)(hr:Uq W0 (Pf hh_ aX!) W')
  (hR:∀o M' af,M o=none->Cc t M' o af W' 1500->yG_->(∀b,M b≠none->M' b=M b/\af b=.oth)->R aw_ M'):Im t ch! M R:=by
 refine m_;show Ah sl! _ yg! M _;simp only[Ah,An];refine a1y λo rl M1 ho hO fr=>?_;have hc:∀(K:v_),Lk ch! M1 K->Ao 1 Lk bw_ [eg_,A!,none,none,none] M1 K:=λK h=>b8_;refine hc _ (b3w nd hl hd λq M2 ep kq hq cu uk uv=>?_);have hi:Eu ix_ yH!=some hf_:=a3m (lS nd hl);show Dk (Kt _) _ (ED t) yH! M2 _;simp only[Dk,Kt,hi,Dw];have hp:(aX!).Perm ops:=cK ops;have ju:rl q=.oth:=by
  by_cases z:rl q=.oth
  .exact z
  .obtain⟨_,_,_,_,_,_,_,_,_,_,_,_,hA⟩:=hO;exact absurd hq (hA.live q z)
 have hO2:Cc t M2 o rl W0 2:=hO.keep λc hc=>uv c (hO.live hc);have wm:∀x∈ops,kget kq x.nm≠none↔Undn hh_ x:=λx L=>by
  rw[uk];show"!O"
  .rintro⟨y,hy,e,hu⟩;have:y=x:=b8x nn hy L e;rw[<-this];exact hu
  .exact λh=>⟨x,L,rfl,h⟩
 refine b1w (t:=t) (wd:=o1!) (e0:=ep) (ops:=ops) wm aX! hi! none none M2 rl W0 W' [] 2 _ (λx L=>⟨hp.mem_iff.mp L,hd x yH_⟩) yI! yI_ hO2 b3r hr kx! cu ju λM' af y' z' g1 g2 g3=>?_;refine hR o M' af ho (g1.mono kx!) g2 λb O=>?_;obtain⟨e1,e2⟩:=fr b O;have e3:=uv b nA!;have g4:=g3 b yJ_ e2;exact⟨by rw[g4.1,e3,e1],g4.2⟩
def c0c(o:Op):∀{l:o!},On Op.key l->∃u v,l=u++v/\Qu Op.key o l=u++o::v/\(∀x∈u,Kq o.key x.key=false)/\∀x∈v,Kq o.key x.key=true
 |[],_=>⟨[],[],rfl,rfl,H!,H!⟩
 |y::l,h=>by
  unfold On at h;rw[JE]at h;unfold Qu;cases e:Kq o.key y.key with
  |true=>
   refine⟨[],y::l,rfl,rfl,H!,aT_⟩;obtain rfl|L:=GJ.mp L
   .exact e
   .exact jG e (h.1 x L)
  |false=>
   obtain⟨u,v,e1,e2,e3,e4⟩:=c0c o h.2;refine⟨y::u,v,by rw[e1];rfl,by rw[e2];rfl,aT_,e4⟩;obtain rfl|L:=GJ.mp L
   .exact e
   .exact e3 x L
def d2n(a b c d:Int):HT.lexLt af! [c,d]=Kq X_ (c,d):=by
 rw[KI,uF,HT.lexLt_cons];by_cases h:a=c
 .rw[GU h,HT.lexLt_cons];by_cases h':b=d
  .rw[GU h'];simp[HT.lexLt_nil_nil];omega
  .rw[GL h',HQ];show"#<";omega
 .rw[GL h,HQ];show"#<";omega
def Yt(l:o!)(o:Op):Nat->Bool
 |0=>false
 |j+1=>match l[j]? with|some f=>Kq o.key f.key|none=>false
def BC:Ad->Option Bool:=Cy tE_ tF!
def b2e{l:o!}{o:Op}{k:Nat}(hk:k<=O!):BC [K_,yK!,Y_,kx_]=some (Yt l o k):=by
 cases k with
 |zero=>simp[BC,Cy,fT,f2,Aa,fC,Kr,Cb,Yt]
 |succ j=>
  have hj:j<O!:=hk;have e1:l[j]?=some l[j]:=HE hj;have e2:Db (l.map Op.v) pd_=some (cj_).v:=by
   unfold Db Eg;simp[hj]
  have e3:Lo 1 iW_ pf!=some (cj_).v:=by
   have:yK_ - 1=(j:Nat):=by omega
   simp[Lo,f2,Aa,fC,Dl,Cb,this,e2]
  have e4:Ai (cj_).v bt_=some (.int (cj_).tm):=by simp[Op.v,Ai,Db,Eg]
  have e5:Ai (cj_).v G_=some (.int (cj_).h):=by simp[Op.v,Ai,Db,Eg]
  have e6:Ai o.v bt_=some ej_:=by simp[Op.v,Ai,Db,Eg]
  have e7:Ai o.v G_=some bD_:=by simp[Op.v,Ai,Db,Eg]
  have e8:AC (.tup [.int (cj_).tm,.int (cj_).h]) xX_=some (.bl (Kq o.key (cj_).key)):=by
   simp[AC,Rs,d2n,Op.key]
  have e9:Kr pe! G_=some D_:=by simp[Kr,Cb]
  have f3:Aa 3 pf!=some pe!:=rfl;have ut:Aa 2 pf!=some o.v:=rfl;simp only[BC,Cy,fT,f2,f3,fC,LG,e9,Av,Ac,Ag,e3,e4,e5,ut,e6,e7,IL,GS,KF,show(0+1+1:Nat)<=1000 by omega,e8,Yt,e1]
def a5u{o:Op}{u v:o!}(B:∀x∈u,Kq o.key x.key=false)(Y:∀x∈v,Kq o.key x.key=true)(R:q!)(hR:R (.nx kz!) M):
  ∀(m:Nat),m<=v.length->∃n,Cg (Di BC) mT_ n [K_,pg_,Y_,some (.int ph_)] M R
 |0,hm=>by
  refine e6!;have et:=b2e (x0:=x0) (o:=o) (l:=u++v) (k:=bU!) c_;have ef:Yt bi! o bU!=false:=by
   cases hu:bU! with
   |zero=>rfl
   |succ j=>
    have:bi![j]?=some (u[j]' a!):=by rw[JH a!,HE a!]
    simp only[Yt,this];exact B _ ht_
  rw[ef]at et;simp only[Cg,Di,Nat.add_zero,et];exact hR
 |m+1,hm=>by
  obtain⟨n,hn⟩:=a5u B Y R hR m a!;refine⟨n+1,?_⟩;have et:=b2e (x0:=x0) (o:=o) (l:=u++v) (k:=bU!+(m+1)) bd_;have ef:Yt bi! o (bU!+(m+1))=true:=by
   show Yt bi! o (bU!+m+1)=true;have:bi![bU!+m]?=some (v[m]' a!):=by rw[IK a!,show u.length+m - u.length=m by omega,HE a!]
   simp only[Yt,this];exact Y _ ht_
  rw[ef]at et;have es:f2 Dl F_ t_ [K_,pg_,Y_,some (.int pi!)]=some (.int ph_):=by
   have:pi! - 1=ph_:=by omega
   show Dl (.int pi!) aS!=_;simp only[Dl,Cb,this]
  simp only[Cg,Di,et,IL,An,wl,es];exact hn
def FB:WS:=Ah tD_ (Ah (Fo (Di BC) mT_) tF_)
def b2f:∀(os:o!) (x0:D) (y z:ac_) (acc:o!) (R:q!),On Op.key acc->((acc++os).map Op.key).Nodup->cl!+aP_<1000->
  (∀de y' z',On Op.key de->de.Perm (acc++os)->R (.nx [K_,some (.lst (de.map Op.v)),y',z']) M)->Fx bf! I_ FB aI! [K_,hu!,y,z] M R
 |[],x0,y,z,acc,R,hs,nd,hl,hR=>⟨trivial,hR acc y z hs c_⟩
 |o::os,x0,y,z,acc,R,hs,nd,hl,hR=>by
  refine aO!;show Ah (An 3 _) _ pi_ M _;obtain⟨u,v,e1,e2,e3,e4⟩:=c0c o hs;simp only[GS]at hl;have el:Nx lZ_ pi_=some yP!:=by
   have:f1 Bm c0! pi_=some yP!:=by
    show Bm [.lst yO!]=_;simp[Bm]
   unfold Nx;rw[this];rfl
  simp only[Ah,An,wl,el];have ak:cl!=bU!+v.length:=by rw[e1,GW]
  rw[ak,e1];refine a5u e3 e4 _ ?_ v.length y_;have ei:Wh 1 F_ w! kz!=some (.nx [K_,some (.lst ((kA_).map Op.v)),Y_,some ph!]):=by
   have:(bi!).length<big:=by unfold big;rw[GW];omega
   have e3:Aa 3 kz!=some ph!:=rfl;have e2:Aa 2 kz!=some o.v:=rfl;unfold Wh;show(if 0<=(oY_:Int)/\(oY_:Int).toNat<=(pg!).length/\(pg!).length<big then _ else none)=_;rw[GU ⟨r!,H!,by rw[GX];exact this⟩];simp
  simp only[Rv,ei,Dw];have hp:(kA_).Perm (acc++[o]):=by rw[e1];simpa using(List.perm_middle (a:=o) (l₁:=u) (l₂:=v)).trans (List.perm_append_comm (l₁:=[o]) (l₂:=u++v))
  have bu:On Op.key kA_:=by
   rw[<-e2];refine wV hs λy hy=>?_;rw[HM,HU]at nd;exact λz=>nd.2.2 _ (GP hy) o.key c_ z.symm
  have fq:((u++o::v++os).map Op.key).Nodup:=by
   have:(u++o::v++os).Perm (acc++o::os):=by
    have:=hp.append_right os;show"#6"
   exact(this.map _).nodup_iff.mpr nd
  exact b2f os x0 _ _ kA_ R bu fq (by have:=hp.length_eq;simp at this;simp;omega) λde y' z' B Y=>hR de y' z' B (Y.trans (by have:=hp.append_right os;simpa using this))
def vO{ops:o!}(nd:ee_)(hl:ef!)(hR:R (.lst hf_) M):Fu ch! M R:=by
 refine m_;show Ah f6! (Ah (Dk (Kt eG!) bf! FB) b0!) yQ_ M _;have e1:Jv 1 Ag yQ_=some (.nx yR_):=by simp[Jv,Ag]
 have e2:Eu n! yR_=some cJ_:=rfl;refine b2f ops _ none none [] _ (jg_) (by simpa using nd) bd_ λde y' z' B Y=>?_;have:de=Ih ops:=oP B (iZ nd) (by simpa using Y.trans (by simpa using(cK ops).symm));rw[this];exact hR
def a7e{neg:Bool}:Ir neg M T! oi!=some (.bl (if neg then ! oi_ else oi_)):=by show Ir.inS neg M T! oi!=_;simp[Ir.inS,Qi,Be,Bu,Hn,Dz,a3r]
def FC:WS:=Ax tI! tJ! Ch
def d1t{o:Op}(ho:DG o.d):∃k r,o.d=.tup cH_/\(Gk o.d=none->hf!=false/\(k=="redo")=false)/\(∀u,Gk o.d=some u->r=[u.2]/\k=u.1/\xW!/\NameG u.2):=by
 obtain⟨k,a,e,hk,iu,hu⟩|⟨k,r,e,B,Y,hu⟩:=uI ho
 .exact⟨k,[a],e,(λz=>by rw[z]at hu;cases hu),(λu uw=>by rw[hu]at uw;cases uw;exact⟨rfl,rfl,hk,iu⟩)⟩
 .exact⟨k,r,e,(λ_=>pj_),(λu uw=>by rw[hu]at uw;cases uw)⟩
def b9v{o:Op}(e:o.d=.tup cH_):oV!=some T!:=by
 have e3:Ai o.v aB_=some o.d:=by simp[Op.v,Ai,Db,Eg]
 rw[e3,e];show Db (D.str k::r) 0=_;unfold Db Eg;simp
def b1d{k:Str}(hk:xP!):pk!=true:=by
 obtain rfl|rfl:=hk
 .rw[x2!];rfl
 .rw[x2_];simp
def a2b:∀(os:o!) (x1:D) (y:ac_) (acc:g!) (ep:Nat) (M:Mh) (R:q!),kk_->cl!+aP_<1000->M p=some oX_->
  (∀M' bd y',M' p=some (.dct (Nh oW_ os acc) bd)->fo_->R x4_ M')->
  Fx bf! I_ FC aI! oX! M R
 |[],x1,y,acc,ep,M,R,_,_,hp,hR=>x5_
 |o::os,x1,y,acc,ep,M,R,hd,hl,hp,hR=>by
  refine aO!;show FC bQ_ M _;show Ax _ _ _ bQ_ M _;have ho:=hd o GO;simp only[GS]at hl;obtain⟨k,r,e,hn,hs⟩:=d1t ho;have i0:f2 Ai a1_ C_ bQ_=some T!:=b9v e;simp only[Ax,wT,w2,wl,i0,fC,a7e];cases hu:Gk o.d with
  |none=>
   obtain⟨B,Y⟩:=hn hu;have:pk!=false:=by rw[yT!,yT_,B,Y];rfl
   rw[this];exact a2b (p:=p) os x1 eg! acc ep M R fp! a! hp x8!
  |some u=>
   obtain⟨g1,g2,hk,iu⟩:=hs u hu;rw[b1d hk];obtain⟨ka,kh⟩:=zI iu;have i1:f2 Ai a1_ t_ bQ_=some u.2:=by
    have e3:Ai o.v aB_=some o.d:=by simp[Op.v,Ai,Db,Eg]
    show x6!;rw[e3,e,g1];show Db [D.str k,u.2] 1=_;simp[Db,Eg]
   have i2:f2 Bc gc! iw_ bQ_=some fo!:=by
    show(f2 Ai a1_ C_ bQ_).bind (λx=>Bc x b1_)=_;rw[i0];exact fZ k _
   have gu:=gD (y:=u.2) (v:=.bl hf!) hp kh dm_;have:=a2b (p:=p) os x1 eg! yU! yU_ (Ay M p (.dct yU! yU_)) R fp! (by have:=kput_len acc u.2 fo!;omega) mup_same (λM' bd y' B Y=>hR M' bd y' (by
    unfold Nh;rw[hu];obtain⟨u1,u2⟩:=u;dsimp only at g2 B ⊢;rw[<-g2];exact B) λb O=>(Y b O).trans fp_)
   simp only[By,wl,i1,i2,d1v,gu,Dw];exact this
def b0d{ops:o!}(nd:ee_)(hl:ef!)(hd:hh!)
  (hR:∀p M' ep,M p=none->M' p=some (.dct (Nh oW_ aX! []) ep)->fo_->R x! M'):Lu ch! M R:=by
 refine m_;intro p hp;have br:(aX!).Perm ops:=cK ops;have hc:∀(K:v_),Fu ch! du! K->Ao 1 Fu bw_ oY! du! K:=λK h=>b8_;refine hc _ (vO nd hl ?_);exact a2b (p:=p) aX! hi! none [] 0 du! _ x8_ x9_ mup_same x9!
end
def Bj(q:D×D):D:=.tup [q.1,q.2]
def Bd(q:e4!):D:=.tup [q.1,q.2.1,.bl q.2.2]
inductive LR
 |w|wt|wn|q (x:D)|oth
nonrec def k3(rows wt wn:D):List ay_:=[(.str "rows",rows),(.str "texts",wt),(.str "numbers",wn)]
section
variable{a b c v:D}
def c5l:¬(D.str de!=D.str dY!):=λz=>absurd pk_ n_
def c5m:¬(D.str de!=D.str e4_):=λz=>absurd pk_ n_
def c5j:¬(D.str dY!=D.str e4_):=λz=>absurd pk_ n_
def k3r:kget hu_ eU_=some a:=by show bE!=_;rw[l!]
def k3t:kget hu_ tV!=some b:=by show yV!=_;rw[GL c5l,l!]
def k3n:kget hu_ m2!=some c:=by show(if _ then _ else yV!)=_;rw[GL c5m,GL c5j,l!]
def k3p:Aq hu_ eU_ v=k3 v b c:=by show bE!=_;rw[l!];rfl
end
def lP{g:D->D}:∀{its:b_} {x:D},kget kD! x=if x∈its then some (g x)else none
 |[],x=>by simp[kget]
 |i::its,x=>by
  rw[GM];unfold kget;by_cases e:i=x
  .subst e;simp
  .rw[GL e,lP];simp[GN e]
def a6m{g:D->D}{v:D}:∀{its:b_},its.Nodup->x∈its->Aq kD! x v=its.map λi=>(i,if i=x then v else g i)
 |[],_,h=>by cases h
 |i::its,nd,h=>by
  rw[HA]at nd;rw[GM,GM];unfold Aq;by_cases e:i=x
  .subst e;simp only[IL];congr 1;apply IQ;intro j hj;rw[GL λz:j=i=>nd.1 (z▸hj)]
  .rw[GL e];simp only[e,IB];rw[a6m nd.2 ((GJ.mp h).resolve_left (GN e))]
def zO{g:D->D}{v:D}{its:b_}(h:x∉its):Aq kD! x v=kD!++[(x,v)]:=iG (by rw[II];simpa using h)
structure Uu(M:Mh)(w:xh!)(rl:cL!)(W:OW)(wt wn:xh!)(qa:D->Addr):Prop where
 mw:∃e,M w=some (.dct hv! e)
 mt:∃e,M wt=some (.dct (W.its.map λi=>(i,.lst kF!)) e)
 mn:∃e,M wn=some (.dct (W.its.map λi=>(i,.fn fw_)) e)
 mq:∀i∈W.its,M fw_=some (.lst js_)/\rl fw_=.q i
 rw_:rl w=.w
 rt:rl wt=.wt
 rn:rl wn=.wn
 live:∀b,rl b≠.oth->M b≠none
def Bq(M:Mh)(w:xh!)(rl:cL!)(W:OW):Prop:=∃wt wn qa,Uu M w rl W wt wn qa
def Sq(M:Mh)(rl:cL!)(M':Mh)(af:cL!):Prop:=∀b,M b≠none->rl b=.oth->M' b=M b/\af b=.oth
def Sq.refl{M:Mh}{rl:cL!}:Sq M rl M rl:=λb _ h=>b8_
def Sq.trans{M M1 M2:Mh}{rl gf t9:cL!}(B:Sq M rl M1 gf)(Y:Sq M1 gf M2 t9):Sq M rl M2 t9:=λb O hr=>by
 show"!r"
section
variable{M:Mh}{R:D->Mh->Prop}{w:xh!}{rl:Addr->LR}{W:OW}{ρ:Ad}
def kC{ep:Nat}(h:bO_)(hk:ch_):Bt M x! y=kget kvs y:=by simp[Bt,h,hk]
def ixw{ep:Nat}{v:D}(h0:Aa 0 ρ=some x!)(h:bO_)(hv:kget kvs a8_=some v)(K:v_):w2 Bt i! (wl (fC a8_)) ρ M K=K v M:=by have:Bt M x! a8_=some v:=(kC (k:=some (.inl (.inr s))) h rfl).trans hv;simp only[w2,wl,h0,fC,this]
def a3g{q:D×D}:Ai el! G_=some q.1:=by simp[Bj,Ai,Db,Eg]
def a3f{q:D×D}:Ai el! aS!=some q.2:=by simp[Bj,Ai,Db,Eg]
def tX{W:OW}(w:Bx W):∀q∈W.rows,Hv q.1/\Sd q.2/\Ff W q.2:=λq hq=>⟨w.nm _ ((w.ri q.1).mp (GP hq)),a3j w (w.rp q.1 q.2 hq),w.rp q.1 q.2 hq⟩
def a4m(h:T_)(wi:Bx W)(L:Sd x)(hl:aw!<5000)(hR:vh!):Iz [bp!,x] M R:=by
 show"!x";obtain⟨e,hw⟩:=hA.mw;refine m_;show Bf pm! kF_ M _;simp only[Bf,Ca,Cp,ixw (ρ:=kF_) rfl hw k3r];refine dq!;refine cW (λd=>match d with|.tup [_,p]=>decide (p=x)|_=>false) (λd=>match d with|.tup [i,_]=>i|_=>.non) trivial _ _ bQ! ?_
 .show"!E";obtain⟨B,Y,_⟩:=tX wi q hq;refine yW!
  .have e1:fT um_ el_=some yW_:=by
    have:f2 Bc dG! s_ el_=some (.bl yW_):=by
     show(Ai el! aS!).bind yX!=_;rw[a3f];exact pZ Y L
    show"!I"
   simp only[Di,e1];exact hK
  .have e1:f2 Ai n! C_ el_=some q.1:=a3g;exact hK
 .have e2:(((kE!).filter λd=>match d with|.tup [_,p]=>decide (p=x)|_=>false).map λd=>match d with|.tup [i,_]=>i|_=>.non)=chl W.rows x:=by
   rw[MO,II];rfl
  rw[e2];exact hR
end
def b5p(ha:Sd a)(O:Sd b)(hc:Sd c)(hd:Sd d):Bc hv_ (.tup [c,d])=some (.bl (decide (a=c/\b=d))):=by
 unfold Bc;have d1:=oH ha;have d2:=oH O;have e:Eo hv_ (.tup [c,d])=decide (a=c/\b=d):=by
  simp only[Eo,Iu,lT ha hc,lT O hd,Bool.and_true];by_cases B:a=c<;>by_cases Y:b=d<;>simp[B,Y]
 rw[e];simp only[Be,Bu,eQ ha,eQ O,eQ hc,eQ hd,Hn,Dz,Bool.and_true,Bool.true_and];rw[GU bd_]
def c1b{xs:b_}{k:Nat}(h:k<=i_):Bi J_ none kG_=some (.lst (xs.take k)):=by
 have e:HT.sIx xs.length xs.length kG_=k:=by rw[HT.sIx_nat];omega
 simp only[Bi];congr 2;unfold Da;rw[e,HT.sIx_none];simp
def a7v{xs:b_}{k:Nat}(h:k<=i_):Bi J_ kG_ none=some (.lst (xs.drop k)):=by
 simp only[Bi];congr 2;have e:HT.sIx xs.length 0 kG_=k:=by rw[HT.sIx_nat];omega
 have e2:HT.sIx xs.length xs.length none=i_:=rfl;unfold Da;rw[e,e2,OO c_]
section
variable{M:Mh}{R:D->Mh->Prop}{w:xh!}{rl:Addr->LR}{W:OW}{ρ:Ad}
def CK:Ad->Option Bool:=Cy tK_ tL_
def c4g{rs:g!}{k:Nat}(hk:k<=ap!)(hl:ap!<5000)(ja:yX_)(hp:Sd p):CK bV!=some yY!:=by
 have el:f1 Bm ga_ bV!=some kH!:=by
  show y0!;simp[Bm]
 by_cases c:k<ap!
 .have e1:rs[k]?=some rs[k]:=HE c;have ea:Db em! aY!=some kH_:=by
   unfold Db Eg;simp[c]
  have e3:f2 Ai O_ B! bV!=some kH_:=ea;have e4:Jn hs! kH!=some D_:=by simp[Jn,Cb];exact c
  have e6:Eb (fx_).2 p=some yZ_:=a1w (ja _ ht_).2 hp;have e7:f2 Eb tL! w! bV!=some yZ_:=by
   show((f2 Ai O_ B! bV!).bind λx=>Ai x aS!).bind (λz=>Eb z p)=_;rw[e3];show(Ai kH_ aS!).bind _=_;rw[a3f];exact e6
  have e8:f2 Jn B! gu! bV!=some D_:=by
   show y1!;rw[el];exact e4
  simp only[CK,Cy,fT,e8,e7,LG,IL,e1]
 .have e1:rs[k]?=none:=IS a!;have e4:Jn hs! kH!=some as_:=by simp[Jn,Cb];omega
  have e8:f2 Jn B! gu! bV!=some as_:=by
   show y1!;rw[el];exact e4
  simp only[CK,Cy,fT,e8,LG,e1];rfl
def c1e{rs:g!}{k:Nat}(hk:k<ap!)(h:chl pn! p=[])(hp:(fx_).2≠p):chl (rs.take P_) p=[]:=by rw[MV hk,dZ,h];rw[tI hp];rfl
def a7g{rs:g!}(hl:ap!<5000)(ja:yX_)(hp:Sd p)(R:q!)(hR:∀k:Nat,k<=ap!->chl pn! p=[]->R (.nx bV!) M):
  ∀(m k:Nat),ap! - k=m->k<=ap!->chl pn! p=[]->∃n,Cg (Di CK) tM! n bV! M R
 |m,k,hm,hk,hc=>by
  have et:=c4g (x0:=x0) (i:=i) (s:=s) (y:=y) hk hl ja hp;by_cases c:k<ap!/\(rs[k]?.map z_)≠some p
  .obtain⟨c1,c2⟩:=c;have e1:rs[k]?=some rs[k]:=HE c1;rw[e1]at et c2;have c3:(fx_).2≠p:=λz=>c2 (by rw[<-z];rfl);rw[show(match(some rs[k]:Option ay_)with|some q=>!decide (q.2=p)|none=>false)=true by simp[c3]]at et;cases m with
   |zero=>omega
   |succ m=>
    obtain⟨n,hn⟩:=a7g hl ja hp R hR m P_ a! a! (c1e c1 hc c3);refine⟨n+1,?_⟩;have es:f2 Al B! t_ bV!=some kJ!:=by
     show pn_;simp[Al]
    simp only[Cg,Di,et,IL,An,wl,es];exact hn
  .refine e6!;have ef:yY!=false:=by
    cases e:rs[k]? with
    |none=>rfl
    |some q=>
     have c1:k<ap!:=(HC.mp e).1;have:q.2=p:=by
      by_cases z:q.2=p
      .exact z
      .exact absurd ⟨c1,by rw[e];simp[z]⟩ c
     simp[this]
   rw[ef]at et;simp only[Cg,Di,et];exact hR k hk hc
def FF:WS:=Ax tO_ tP! Ch
def FL(rs:g!)(s p:D)(k0 k at_:Nat):Prop:=(at_=k0/\∀j<k,rs[j]?≠some cA_)\/∃j<k,rs[j]?=some cA_/\at_=j+1
def b0k{rs:g!}{k0:Nat}(hl:ap!<5000)(ja:∀q∈rs,Sd q.1/\Sd q.2/\q.1≠.non)(hp:Sd p)(hs:Sd s)(R:q!)(hR:∀(a:Nat) y,FL rs s p k0 rs.length a->R (.nx y2!) M):
  ∀(m k a:Nat) (y:ac_),ap! - k=m->k<=ap!->FL rs s p k0 k a->Fx c4_ I_ FF y3! y2! M R
 |0,k,a,y,hm,hk,ha=>⟨trivial,hR a y (by rw[show rs.length=k by omega];exact ha)⟩
 |m+1,k,a,y,hm,hk,ha=>by
  have c1:k<ap!:=by omega
  refine aO!;show FF em_ M _;have e1:rs[k]?=some rs[k]:=HE c1;obtain⟨q1,q2,q3⟩:=ja rs[k] ht_;have ea:f2 Ai O_ be_ em_=some kH_:=by
   show Db em! aY!=_;unfold Db Eg;simp[c1]
  have et:f2 Bc tN! tN_ em_=some (.bl (decide ((fx_).1=s/\(fx_).2=p))):=by
   show(f2 Ai O_ be_ em_).bind (λz=>Bc z (.tup [s,p]))=_;rw[ea];exact b5p q1 q2 hs hp
  have en:f2 Ap F_ cd! em_=some (.bl (!Ci s)):=rfl;have cond:Cy tM_ tO! em_=some (decide (rs[k]=cA_)):=by
   simp only[Cy,fT,en,et,LG];by_cases z:s=.non
   .rw[show Ci s=true from zS.mpr z];have:¬rs[k]=cA_:=λy=>q3 v9!;simp[this]
   .rw[jH z];simp only[OA,IL];congr 1;rw[decide_eq_decide];exact⟨λy=>Prod.ext y.1 y.2,λy=>by rw[y];exact bI_⟩
  have es:f2 Al be_ t_ em_=some kJ!:=by
   show pn_;simp[Al]
  by_cases z:rs[k]=cA_
  .refine y3_;exact b0k hl ja hp hs R hR m P_ P_ _ a! a! (.inr ⟨k,r!,by rw[e1,z],rfl⟩)
  .refine iL y4! ?_;refine b0k hl ja hp hs R hR m P_ a _ a! a! ?_;obtain⟨B,Y⟩|⟨j,B,Y,h3⟩:=ha
   .refine .inl ⟨B,jQ!⟩;by_cases y:j=k
    .rw[y,e1];exact λx=>z (IG x)
    .exact Y j a!
   .exact y5!
def Uu.setRows{qa:D->Addr}{rows':g!}{e:Nat}(hA:y5_):Uu (Ay M w pp_) w rl {W with rows:=rows'} wt wn qa/\Sq M rl (Ay M w pp_) rl:=by
 have aw:∀b,rl b≠.w->Ay M w pp_ b=M b:=λb O=>mup_ne λz=>O (by rw[z];exact hA.rw_);refine⟨⟨ju_,?_,?_,fq!,hA.rw_,hA.rt,hA.rn,be!⟩,y7_⟩
 .rw[aw wt pq!];exact hA.mt
 .rw[pr!];exact hA.mn
 .show"#4"
 .by_cases z:b=w
  .rw[z,mup_same];simp
  .rw[jB!];show"#,"
def a8i(h:T_)(ja:∀q∈W.rows,Sd q.1/\Sd q.2/\q.1≠.non)(hi:Sd i)(hp:Sd p)(hs:Sd s)(hl:aw!<4000)
  (hR:∀M' rows',Oz W.rows i p s rows'->Bq M' w rl {W with rows:=rows'}->Sq M rl M' rl->R .non M'):Gi [bp!,i,p,s] M R:=by
 show"!x";obtain⟨e,hw⟩:=hA.mw;refine m_;show Ah (An 4 pm!) _ zb! M _;simp only[Ah,An,Ca,Cp,ixw (ρ:=zb!) rfl hw k3r];refine dq!;have sub:∀q∈wo W.rows i,q∈W.rows:=λq hq=>(nr!).1;have lw:(jO_).length<=aw!:=LP _ _;refine cW (λd=>match d with|.tup [a,_]=>!decide (a=i)|_=>false) id trivial _ _ bQ! ?_
 .obtain⟨q,hq,rfl⟩:=HB.mp hd;obtain⟨B,_,_⟩:=ja q hq;refine⟨ps!,rfl,hd_,xU!⟩;have e1:fT tK! ps!=some zb_:=by
   have:f2 Eb a0_ s_ ps!=some (.bl zb_):=by
    show(Ai el! G_).bind (λz=>Eb z i)=_;rw[a3g];exact a1w B hi
   show"!I"
  simp only[Di,e1];exact hK
 have e2:((kE!).filter λd=>match d with|.tup [a,_]=>!decide (a=i)|_=>false).map id=(jO_).map Bj:=by
  rw[List.map_id,MO];congr 1;apply LA;intro q _;simp[Bj]
 rw[e2];generalize VV:wo W.rows i=rs at *;have RJ:∀q∈rs,Sd q.1/\Sd q.2/\q.1≠.non:=λq hq=>ja q (sub q hq);refine a7g (M:=M) a! (λq hq=>⟨(RJ q hq).1,(RJ q hq).2.1⟩) hp _ (λk0 hk0 hc0=>?_) rs.length 0 a! a! (by rw[List.take_zero];rfl);have hr:Fi gu! zc!=some ((List.range' 0 ap!).map λj=>D.int pd_):=by
  have:f1 Bm ga_ zc!=some kH!:=by
   show y0!;simp[Bm]
  unfold Fi;rw[this];show(if -1000<=ps_/\ps_<=100000 then some (Dr (ps_).toNat)else none)=_;rw[aX_];simp[Dr,List.range_eq_range']
 simp only[Dk,Kt,hr,Dw];refine b0k (M:=M) a! RJ hp hs _ (λa y ha=>?_) rs.length 0 k0 none a! a! ze_;have ux:a<=ap!:=by
  obtain⟨B,_⟩|⟨j,B,_,h3⟩:=ha<;>omega
 have ev:f2 Al tQ! tR! fy_=some kL_:=by
  have s1:Ep O_ Au eV! fy_=some pt!:=c1b kM!;have s2:Ep O_ eV! Au fy_=some zf_:=a7v kM!;have s3:Dv tQ_ fy_=some pt_:=rfl;have a1:Al pt! pt_=some zg_:=by
   show g6!;rw[kM_]
  have a2:Al zg_ zf_=some kL_:=by
   show g6!;rw[kM_];simp
  show((Ep O_ Au eV! _).bind λx=>(Dv _ _).bind λz=>Al x z).bind (λx=>(Ep O_ eV! Au _).bind λz=>Al x z)=_;rw[s1,s3,s2];show(Al pt! pt_).bind (λx=>Al x _)=_;rw[a1];exact a2
 have gu:Kn M ck! eU_ kL_=some (Ay M w (.dct (k3 kL_ kE_ ek_) (Ge hv! eU_ e))):=by
  rw[gD (k:=some (.inl (.inr "rows"))) hw rfl (by show 3<big;decide),k3p]
 have f0:Aa 0 fy_=some ck!:=rfl;obtain⟨g1,g2⟩:=hA.setRows (rows':=rs.take a++bA!::rs.drop a) (e:=Ge hv! eU_ e);have fin:=hR _ zf! ⟨rs.take a,rs.drop a,by rw[VV,List.take_append_drop],rfl,?_⟩ zi_ g2
 .show By i! iZ_ (wl _) fy_ M _;simp only[By,wl,ev,f0,fC,gu,Dw];exact fin
 .rw[VV];obtain⟨B,Y⟩|⟨j,B,Y,h3⟩:=ha
  .refine .inl ⟨cK_,by rw[B];exact hc0⟩;obtain⟨j,hj⟩:=LM.mp oc_;exact Y j (HC.mp hj).1 hj
  .refine .inr ⟨rs.take j,?_⟩;have hj:j<ap!:=(HC.mp Y).1;rw[h3,MV hj,(HC.mp Y).2]
def b0o{rows:g!}(nd:cJ!):(rows.filter λq=>decide fz!)=match rows.find? zj_ with|some q=>[q]|none=>[]:=by
 induction rows with
 |nil=>rfl
 |cons a r ih=>
  rw[GM,HA]at nd;by_cases e:a.1=x
  .rw[IT gN!,List.find?_cons_of_pos gN!];have:r.filter zj_=[]:=by
    rw[List.filter_eq_nil_iff];intro q hq;simp only[HQ];exact λz=>nd.1 (by rw[e,<-z];exact GP hq)
   rw[this]
  .rw[IU gN!,List.find?_cons_of_neg gN!,ih nd.2]
def c5g{W:OW}(wi:Bx W)(h:a7!∈W.rows):pu_=[a7!]:=by
 rw[b0o wi.rnd];cases e:W.rows.find? λq=>decide fz! with
 |none=>have:=List.find?_eq_none.mp e a7! h;simp at this
 |some q=>
  have B:=List.find?_some e;have Y:=List.mem_of_find?_eq_some e;simp at B;have:q.2=p:=iH wi.rnd (by rw[<-B];exact Y) h;obtain⟨a,b⟩:=q;dsimp only at B this ⊢;rw[B,this]
def c9t{W:OW}(wi:Bx W)(h:∀p,a7!∉W.rows):pu_=[]:=by rw[List.filter_eq_nil_iff];rintro⟨a,b⟩ hq;simp only[HQ];exact λz=>h b u5!
def EE:WS:=Ah tT!
 (Ah tU_
 (An 1 gj!))
def zN(h:T_)(wi:Bx W)(hl:aw!<5000)(hi:Hv i){rk:D->Nat}(gr:vl_):∀(n:Nat) (x:D) (y:ac_),rk x<n->Ff W x->∀(R':q!),(Wn W.rows i x->∀y',R' (.nx [z!,M!,M!,y']) M)->(¬Wn W.rows i x->R' (.rt as_) M)->
   ∃m,Cg (Di in_) EE m fz_ M R'
 |0,x,y,hn,_,_,_,_=>by omega
 |n+1,x,y,hn,L,R',r1,r2=>by
  obtain⟨wt,wn,qa,hA⟩:=id h;obtain⟨e0,hw⟩:=hA.mw;have sx:=a3j wi L;have et:fT rN_ fz_=some pv!:=by
   have:f2 Eb s_ w! fz_=some (.bl pv!):=a1w sx hi.sd;show"!I"
  by_cases e:x=i
  .subst e;refine e6!;simp only[Cg,Di,et];exact r1 .here y
  .rw[show pv!=true by simp[e]]at et;have body:∀(K:q!),(vn!->K (.rt as_) M)->(∀p,a7!∈W.rows->K (.nx [z!,cC!,M!,some pv_]) M)->EE fz_ M K:=λK g1 g2=>by
    show Ah (An 3 pm!) _ fz_ M _;simp only[Ah,An,Ca,Cp,ixw (ρ:=fz_) rfl hw k3r];refine dq!;refine cW (λd=>match d with|.tup [a,_]=>decide (a=x)|_=>false) (λd=>match d with|.tup [_,p]=>p|_=>.non) trivial _ _ bQ! ?_
    .show"!E";obtain⟨B,_,_⟩:=tX wi q hq;refine yW!
     .have e1:fT tS_ el_=some (decide fz!):=by
       have:f2 Bc a0_ s_ el_=some (.bl (decide fz!)):=by
        show(Ai el! G_).bind yX!=_;rw[a3g];exact pZ B.sd sx
       show"!I"
      simp only[Di,e1];exact hK
     .have e1:f2 Ai n! t_ el_=some q.2:=a3f;exact hK
    .have e2:(((kE!).filter λd=>match d with|.tup [a,_]=>decide (a=x)|_=>false).map λd=>match d with|.tup [_,p]=>p|_=>.non)=(pu_).map z_:=by
      rw[MO,II];rfl
     rw[e2];by_cases c:∃p,a7!∈W.rows
     .obtain⟨p,hp⟩:=c;rw[c5g wi hp];refine iL rfl ?_;have e3:f2 Ai F_ C_ [z!,aM_,M!,some pv_]=some p:=rfl;exact g2 p hp
     .have c':∀p,a7!∉W.rows:=λp z=>c ⟨p,z⟩;rw[c9t wi c'];refine ifT rfl ?_;exact g1 c'
   obtain L|L:=L
   .obtain⟨p,hp⟩:=a9b wi L;have q:=uO wi.rnd hp e;have:=gr _ _ hp;have key:∀y',∃m,Cg (Di in_) EE m [z!,cC!,M!,y'] M R':=λy'=>zN h wi hl hi gr n p y' a! (wi.rp _ _ hp) R' vn_ (λz=>r2 λv=>z (q.mp v));obtain⟨m,hm⟩:=key (some pv_);refine⟨m+1,?_⟩;simp only[Cg,Di,et,IL];exact body _ (λnt=>absurd hp (nt p)) λp' br=>by rw[iH wi.rnd br hp];exact hm
   .have nt:∀p,a7!∉W.rows:=by
     obtain rfl|rfl:=L
     .exact rD wi (b1m wi)
     .exact rD wi (c1m wi)
    refine e6!;simp only[Cg,Di,et,IL];exact body _ (λ_=>r2 (b6a nt e)) (λp hp=>absurd hp (nt p))
def c1r(h:T_)(wi:Bx W)(hl:aw!<5000)(L:df!)(hi:Hv i)(hR:∀b:Bool,(b=true↔Wn W.rows i x)->R bI! M):Lv [bp!,x,i] M R:=by obtain⟨rk,gr⟩:=wi.rk;refine m_;exact zN h wi hl hi gr (rk x+1) x none a! L _ (λz y'=>hR true fT_) (λz=>hR false fT_)
def c4e{neg:Bool}{ep:Nat}(h:bO_)(hk:ch_):Ir neg M y x!=some (.bl (if neg then !(hy_).isSome else(hy_).isSome)):=by simp[Ir,h,hk]
def c4c(L:Sd x)(ha:Sd a)(O:Sd b):Ir false M x hv_=some (.bl (decide (x=a\/x=b))):=by
 have d1:=oH ha;have d2:=oH O;have e:((af!).any λd=>Eo d x)=decide (x=a\/x=b):=by
  simp only[KQ,List.any_nil,Bool.or_false,lT ha L,lT O L];by_cases B:a=x<;>by_cases Y:b=x<;>simp[B,Y,GN]<;>first|exact .inl B.symm|exact .inr Y.symm|exact⟨λz=>B z.symm,λz=>Y z.symm⟩|skip
 show Ir.inS false M x hv_=_;show(if Be x&&Bu af!&&decide (Dz af!<=40)then some (D.bl (if false=true then _ else[a,b].any λd=>Eo d x))else none)=_;rw[GU (by simp[eQ L,Bu,eQ ha,eQ O,Dz];omega),e];rfl
def d2c{g:bT!}{fx:d_}{fb:WE}(L:fx ρ=some x)(K:v_):w2 g kO! fb ρ M K=fb ρ M λy M2=>match g M2 x y with|some d=>K d M2|none=>False:=by simp only[w2,wl,L]<;>rfl
def b6l{W:OW}:(kget en_ x).isSome=decide gF_:=by rw[lP];by_cases h:x∈W.its<;>simp[h]
def pU{fx:d_}(h:T_)(h0:hz!)(L:fx ρ=some x)(hk:fs_)(K:v_):w2 bv! kO! bh! ρ M K=K (.bl (decide gF_)) M:=by obtain⟨wt,wn,qa,hA⟩:=h;obtain⟨e0,hw⟩:=hA.mw;obtain⟨e1,ht⟩:=hA.mt;have hi:=ixw (M:=M) (ρ:=ρ) (s:=hn_) h0 hw k3t;have e:=c4e (neg:=false) ht hk;rw[show(if false=true then _ else(kget en_ x).isSome)=decide gF_ from b6l]at e;rw[d2c L,hi,e]
def a8h(h:T_)(wi:Bx W)(hl:aw!<4000)(hi:Sd i)(L:Sd x)(hs:Sd s)(cn:e6_)(gd:nD_)
  (hR:∀M' W',(dZ!->∃rows',Oz W.rows i x s rows'/\W'={W with rows:=rows'})->(¬dZ!->W'=W)->Bq M' w rl W'->Sq M rl M' rl->R .non M'):Iy [bp!,i,x,s] M R:=by
 refine m_;show Ax (Gs (wT _) (CC (wT _) (wT _))) _ Ch du_ M _;have g1:=pU (ρ:=du_) (fx:=Aa 1) h rfl rfl cn;have g2:=pU (ρ:=du_) (fx:=Aa 2) h rfl rfl gd;have g3:∀K:D->Mh->Prop,w2 bv! L_ tW_ du_ M K=K (.bl (decide (x=root\/x=Bo))) M:=λK=>by
  have ut:Aa 2 du_=some x:=rfl;have:=c4c (M:=M) L (hJ "root") (hJ "bin");simp only[w2,wl,ut,fC,this]
 have no:(¬dZ!)->R .non M:=λc=>hR M W (λz=>absurd z c) (λ_=>rfl) h .refl;have VW:i∈W.its->Ff W x->Ax tX_ tZ! Ch du_ M gH!:=λc1 c2=>by
  have hc:∀(K:v_),Lv [bp!,x,i] M K->Ao 3 Lv (Ab i! ip_) du_ M K:=λK h=>b8_;refine hc _ (c1r h wi a! c2 (wi.nm i c1) λb O=>?_);cases b with
  |true=>exact no λz=>z.2.2 (O.mp rfl)
  |false=>
   have nw:¬Wn W.rows i x:=λz=>by have:=O.mpr z;cases this
   have jf:∀(K:v_),Gi [bp!,i,x,s] M K->Ao 4 Gi tY! du_ M K:=λK h=>b8_;simp only[OA,IL];refine gG (jf _ (a8i h dg! hi L hs hl λM' rows' hg hL hF=>?_))
   .obtain⟨B,Y,_⟩:=tX wi q hq;exact⟨B.sd,Y,B.nn.1⟩
   .exact hR M' _ (λ_=>⟨rows',hg,rfl⟩) (λz=>absurd ⟨c1,c2,nw⟩ z) hL hF
 simp only[Ax,Gs,CC,wT,g1];by_cases c1:i∈W.its
 .rw[HN c1];simp only[IL,g2];by_cases c2:x∈W.its
  .rw[HN c2];exact VW c1 (.inl c2)
  .rw[GZ c2];simp only[HL,IB,g3];by_cases c3:x=root\/x=Bo
   .rw[HN c3];exact VW c1 (.inr c3)
   .rw[GZ c3];exact no λz=>z.2.1.elim c2 c3
 .rw[GZ c1];exact no λz=>c1 z.1
end
def Wu:WS:=(Ah t1_
 (Ah m3!
 (Ah m3_
 m4_)))
def Wt:WS:=t4!
def CA:WS:=t6_
def Sm:WS:=(Ah i3!
 (Ah (An 6 aK_)
 (Ah (Dk m6! c9! CA)
 (Ah t9!
 ua_))))
def Wv:WS:=(Ah ud_
 (Ah i3!
 uf_))
abbrev knd(k:Str):Ad->Option Bool:=fT (f2 Bc bx! (fC T!))
abbrev Ts:WT:=wT gu_
def c2m:Wq=Ah m0! (Ah m0_
 (Ax zo! Wu (Ax zo_ m5! (Ax zp! m5_
  (Ax zp_ Wt zq!))))):=rfl
section
variable{M:Mh}{R:D->Mh->Prop}{w:xh!}{rl:Addr->LR}{W:OW}{ρ:Ad}{pre:List D}
def b9n(h:px!):knd k' ρ=some ke!:=by
 have e:Ai ee! G_=some T!:=by
  show oK!;unfold Db Eg;simp
 have:f2 Bc bx! (fC oJ!) ρ=some (.bl ke!):=by
  show((kP_).bind λx=>Ai x G_).bind (λx=>Bc x oJ!)=_;rw[h];show(Ai ee! G_).bind _=_;rw[e];exact fZ k k'
 unfold knd fT;rw[this];rfl
def p1(h:zr_):f2 Ai w! t_ ρ=some a:=by show(kP_).bind (λx=>Ai x aS!)=_;rw[h];exact ix1
def p2(h:Aa 2 ρ=some oL_):f2 Ai w! U_ ρ=some b:=by show(kP_).bind (λx=>Ai x bt_)=_;rw[h];exact ix2
def p3(h:Aa 2 ρ=some oM!):f2 Ai w! at! ρ=some c:=by show(kP_).bind (λx=>Ai x aB_)=_;rw[h];exact ix3
def anF{ft:af_}{fu:WT}{q1 q2:WS}{R:q!}(h:xF!)(k:hd!):Ax zs! q1 q2 ρ M R:=by simp only[Ax,Gs,Di,h];exact k
def anT{ft:af_}{fu:WT}{q1 q2:WS}{R:q!}{b:Bool}(h:xE_)(hu:∀K:Bool->Mh->Prop,K b M->fu ρ M K)(k1:zs_)(k2:zt!):Ax zs! q1 q2 ρ M R:=by
 simp only[Ax,Gs,Di,h,IL];refine hu _ ?_;cases b with
 |true=>rw[l!];exact k1 rfl
 |false=>rw[av_];exact k2 rfl
def a3l(h:T_)(h0:hz!)(Y:zr_)(hk:dk_)(K:fu_)(hK:K (decide (a∈W.its)) M):Ts ρ M K:=by unfold Ts wT;rw[pU h h0 (p1 Y) hk];exact hK
def Cv.sd(h:Cv x):Sd x:=by
 obtain rfl|rfl|⟨a,b,rfl,_⟩:=h
 .exact hJ _
 .exact hJ _
 .exact .inr nB!
def Me.sd(h:Me x):Sd x:=by
 obtain rfl|⟨a,b,rfl,_⟩:=h
 .exact cT!
 .exact .inr nB!
def Kk.sd(h:Kk x):Sd x:=by
 obtain rfl|⟨a,b,c,rfl,_⟩:=h
 .exact cT!
 .exact .inr vi!
def Uu.setTx{qa:D->Addr}{l:ac!}{e:Nat}(hA:y5_)(nd:np_)(ha:dX!):Uu (Ay M wt py!) w rl ny! wt wn qa/\Sq M rl (Ay M wt py!) rl:=by
 have aw:∀b,rl b≠.wt->Ay M wt py! b=M b:=λb O=>mup_ne λz=>O (by rw[z];exact hA.rt);refine⟨⟨?_,eZ_,?_,fq!,hA.rw_,hA.rt,hA.rn,be!⟩,y7_⟩
 .rw[aw w py_];exact hA.mw
 .rw[mup_same,a6m nd ha];congr 2;apply IQ;intro i _;show(i,if i=a then D.lst kQ! else D.lst kF!)=(i,D.lst ((if i=a then l else W.txt i).map Bd));split<;>rfl
 .rw[pr!];exact hA.mn
 .show"#4"
 .by_cases z:b=wt
  .rw[z,mup_same];simp
  .rw[jB!];show"#,"
def c0s{p v:Int}{R:q!}(h:T_)(wi:Bx W)(ha:dX!)(hk:dk_)(h0:hz!)(Y:Aa 2 ρ=some kc!)(p0:0<=p)(qr:p<=3)
  (hR:∀M',Bq M' w rl (Ry W a kc_)->Sq M rl M' rl->R am_ M'):Wt ρ M R:=by
 obtain⟨wt,wn,qa,hA⟩:=h;obtain⟨e0,hw⟩:=hA.mw;obtain⟨e2,hn⟩:=hA.mn;obtain⟨hq,ju⟩:=hA.mq a ha;have hi:=ixw (M:=M) (ρ:=ρ) (s:=h4_) h0 hw k3n;have hg:Bt M ek_ a=some pz_:=by rw[kC hn hk,lP,GU ha]
 have L:Eg (oD!).length p=some p.toNat:=by
  rw[wi.nl a ha];unfold Eg;rw[GU p0,aX_]
 have gu:Kn M pz_ (.int p) ed_=some (Ay M (qa a) (.lst kc_)):=by simp[Kn,hq,L]
 have aw:∀b,rl b≠.q a->Ay M (qa a) (.lst kc_) b=M b:=λb O=>mup_ne λz=>O vq_;have fin:=hR _ ⟨wt,wn,qa,⟨by rw[aw w py_];exact hA.mw,by rw[aw wt pq!];exact hA.mt,by rw[pr!];exact hA.mn,λi hi=>by
   by_cases c:i=a
   .subst c;refine⟨?_,ju⟩;rw[mup_same];simp[Ry]
   .obtain⟨g1,g2⟩:=hA.mq i hi;refine⟨?_,g2⟩;rw[aw _ (by rw[g2];simpa using c),g1];simp[Ry,c],hA.rw_,hA.rt,hA.rn,λb O=>by
   by_cases z:b=qa a
   .rw[z,mup_same];simp
   .rw[jB!];exact hA.live b O⟩⟩ (λb _ hr=>y7!)
 show By t3_ gd_ (wl a1_) ρ M R;have e3:=p3 Y;have e2':=p2 Y;have e1:=p1 Y;have ur:∀K:D->Mh->Prop,w2 Bt i2_ b2_ ρ M K=K pz_ M:=λK=>by
  have st:∀{fo:WE} {fb:d_} {x y:D} (_:zu_) (_:pA_) (K:v_),w2 Bt fo hj! ρ M K=(match Bt M x y with|some d=>K d M|none=>False):=λB Y K=>by
   unfold w2;rw[B];simp only[wl,Y]<;>rfl
  rw[st hi e1,hg]
 unfold By;simp only[wl,e3];rw[ur];simp only[wl,e2',gu,Dw];exact fin
def d2d{g:bT!}{fo:WE}{fb:d_}(B:zu_)(Y:pA_)(K:v_):w2 g fo hj! ρ M K=(match g M x y with|some d=>K d M|none=>False):=by unfold w2;rw[B];simp only[wl,Y]<;>rfl
def b6h{fx:d_}(h:T_)(h0:hz!)(L:fx ρ=some a)(hk:dk_)(ha:dX!)(K:v_):w2 Bt bh! kO! ρ M K=K (.lst eo!) M:=by obtain⟨wt,wn,qa,hA⟩:=h;obtain⟨e0,hw⟩:=hA.mw;obtain⟨e1,ht⟩:=hA.mt;rw[d2d (ixw (M:=M) (ρ:=ρ) (s:=hn_) h0 hw k3t) L,kC ht hk,lP,GU ha]
def d2e{q:e4!}:Ai (Bd q) G_=some q.1:=by simp[Bd,Ai,Db,Eg]
def d0h{q:e4!}:Ai (Bd q) aS!=some q.2.1:=by simp[Bd,Ai,Db,Eg]
def d0g{q:e4!}:Ai (Bd q) bt_=some pB!:=by simp[Bd,Ai,Db,Eg]
def c4d{neg:Bool}(L:Sd x)(hl:∀d∈l,Sd d):Ir neg M x (.lst l)=some (.bl (if neg then !decide (x∈l)else decide (x∈l))):=by
 have e:zw!=decide (x∈l):=by
  rw[KI,List.any_eq_true,HQ];show"!O"
  .rintro⟨d,hd,he⟩;rw[lT (hl d hd) L,HQ]at he;rw[<-he];exact hd
  .intro h;exact⟨x,h,by rw[lT L L];simp⟩
 have n:∀l:List D,(∀d∈l,Sd d)->Bu l=true/\Dz l<=5:=λl=>by
  induction l with
  |nil=>intro _;simp[Bu,Dz]
  |cons a r ih=>
   intro h;obtain⟨i1,i2⟩:=ih λd hd=>h d (GI _ hd)
   have B:=eQ (h a GO);have Y:=oH (h a GO);refine⟨by simp[Bu,B,i1],by simp[Dz];omega⟩
 obtain⟨n1,n2⟩:=n l hl;show Ir.inS neg M x (.lst l)=_;show(if Be x&&Bu l&&decide (Dz l<=40)then some (D.bl (if neg=true then ! zw! else l.any λd=>Eo d x))else none)=_;rw[GU (by rw[eQ L,n1];simp;omega),e]
def b7h{fx:d_}{fv:WE}{l:ac!}{R:q!}(h:T_)(nd:np_)(hB:hA!<5000)(h0:hz!)(L:fx ρ=some a)(hk:dk_)(ha:dX!)(hv:∀K:D->Mh->Prop,K kQ_ M->fv ρ M K)
  (hR:∀M',Bq M' w rl ny!->Sq M rl M' rl->R am_ M'):By bh! kO! fv ρ M R:=by
 show"!x";obtain⟨e0,hw⟩:=hA.mw;obtain⟨e1,ht⟩:=hA.mt;refine hv _ ?_;rw[ixw (M:=M) (ρ:=ρ) (s:=hn_) h0 hw k3t];have gu:=gD (y:=a) (v:=.lst kQ!) ht hk cL_;simp only[wl,L,gu,Dw];obtain⟨g1,g2⟩:=hA.setTx (a:=a) (l:=l) (e:=Ge en_ a e1) nd ha;exact hR _ zi_ g2
def a1g{f:d_}{n:Nat}(h:f ρ=some (.int (n:Nat)))(hn:n<=100000):Fi f ρ=some ((od!).map λi=>D.int cM!):=by unfold Fi;rw[h];show(if -1000<=pC!/\pC!<=100000 then some (Dr (pC!).toNat)else none)=_;rw[aX_];simp[Dr]
def c0u{g4 r5 r6 r7 r8:D}{x y z m:Int}{R:q!}(h:T_)(wi:Bx W)(hB:hA!<5000)(ht:zx_)(ha:dX!)(hk:dk_)(m1:1<=m)(Y3:m<=16)
  (hR:∀M' ρ',Bq M' w rl (setT W a (cutT vB! ao!))->Sq M rl M' rl->R cl_ M'):
  Wv pC_ M R:=by
 have Y:∀o4 o5 o6 o7 o8 o9,Aa 2 pC_=some eb_:=λ_ _ _ _ _ _=>rfl;have hm:((m.toNat:Nat):Int)=m:=by omega
 have er:Fi a1_ pC_=some ((d2_).map λi=>D.int cM!):=a1g (by rw[p3 zy_,hm]) a!;show Ah (An 9 (Ca 1 [2] (Kt _) _ _ _)) _ _ M R;simp only[Ah,An,Ca,Kt,er,Dw];refine dq!;refine cW fm! (λd=>match d with|.int k=>.tup zz!|_=>.non) trivial _ _ bQ! ?_
 .obtain⟨k,cr,rfl⟩:=HB.mp hd;refine⟨cM_,rfl,he!,dq_⟩;have e1:f2 Ai s_ U_ cM_=some d1_:=by
   show Ai eb_ bt_=_;exact ix2
  have ub:Bi d1_ none (some 2)=some jx_:=by simp[Bi,Da,HT.sIx]
  have e2:Ep gv_ Au cY_ cM_=some jx_:=by
   unfold Ep;exact ub
  have e3:f2 Ai gv_ U_ cM_=some (.int z):=by
   show(f2 Ai s_ U_ cM_).bind (λv=>Ai v bt_)=_;rw[e1];rfl
  have e4:f2 Al ub_ (Av m8!) cM_=some (.tup [e8_,e8!,.int (z+aY!)]):=by
   have e5:Av m8! cM_=some (.tup [.int (z+aY!)]):=by
    have:f2 Al ud! n! cM_=some (.int (z+aY!)):=by
     show(f2 Ai gv_ U_ cM_).bind (λv=>Al v hA_)=_;rw[e3];rfl
    unfold Av Ac;rw[this];rfl
   show(Ep _ _ _ _).bind (λu=>(Av _ _).bind λv=>Al u v)=_;rw[e2,e5];rfl
  exact hK
 rw[ki_,II];show w2 Bt bh! b2_ [some ck!,some x0,some eb_,some nm,o4,o5,o6,o7,o8,some (.lst ((d2_).map zA_))] M _;have eg:(d2_).map zA_=(d2_).map λk=>D.tup gM!:=rfl;rw[eg];generalize hg:(d2_).map (λk=>D.tup gM!)=cv at hR;have y8:∀d∈cv,Sd d:=λd hd=>by
  rw[<-hg]at hd;obtain⟨k,_,rfl⟩:=HB.mp hd;exact .inr (.inr (.inr ⟨[x,y,z+(k:Nat)],rfl⟩))
 rw[b6h (ρ:=[z!,K_,kR_,fA!,o4,o5,o6,o7,o8,some hB!]) h rfl (p1 zy_) hk ha];refine b7h (l:=cutT cv ao!) h wi.nd hB rfl kS! hk ha zB! λM' g1 g2=>hR M' _ g1 g2;have ei:Eu B! [z!,K_,kR_,fA!,o4,hB_,o6,o7,o8,some hB!]=some eo!:=rfl;refine dq!;refine cW fm! (λd=>match d with|.tup [s,c,.bl b]=>Bd zB_|_=>.non) trivial _ _ bQ! ?_
 .obtain⟨q,hq,rfl⟩:=HB.mp hd;have sq:Sd q.1:=(zC!).sd;refine⟨hC_,rfl,he!,dq_⟩;have e0:f2 Ai n! C_ hC_=some q.1:=d2e;have e1:f2 Ai n! t_ hC_=some q.2.1:=d0h;have e2:f2 Ai n! U_ hC_=some pB!:=d0g;have e3:Aa 1 hC_=some hB!:=rfl;have e4:Ir true M q.1 hB!=some (.bl (!decide (q.1∈cv))):=c4d sq y8;simp only[Xf,Ab,Af,wl,e0,e1,Mf,wT,e2];cases O:q.2.2 with
  |true=>
   simp only[w2,wl,e0,e3,e4];refine⟨H!,?_⟩;have:K (Bd nG!) M:=by
    have:=hK;exact this
   rw[O]at this;simpa[Bd]using this
  |false=>
   refine⟨H!,?_⟩;have:K (Bd nG!) M:=by
    have:=hK;exact this
   rw[O]at this;simpa[Bd]using this
 .rw[ki_,II];have:(ao!).map ((λd=>match d with|.tup [s,c,.bl b]=>Bd zB_|_=>D.non)∘Bd)=(cutT cv ao!).map Bd:=by
   unfold cutT;rw[II];rfl
  rw[this];exact hK
def CY(l:ac!)(b:D)(k a:Nat):Prop:=(a=0/\∀j<k,zC_≠some b)\/∃j<k,zC_=some b/\a=j+1
def a8k{o4:D}{l:ac!}(hl:O!<5000)(hs:∀q∈l,Sd q.1)(O:Sd b)(R:q!)(hR:∀(a:Nat) y,CY l b l.length a->R (.nx zD_) M):
  ∀(m k a:Nat) (y:ac_),O! - k=m->k<=O!->CY l b k a->Fx c9! I_ CA y3! zD_ M R
 |0,k,a,y,hm,hk,ha=>⟨trivial,hR a y (by rw[show l.length=k by omega];exact ha)⟩
 |m+1,k,a,y,hm,hk,ha=>by
  have c1:k<O!:=by omega
  refine aO!;show CA dv! M _;have e1:l[k]?=some l[k]:=HE c1;have ea:f2 Ai B! bv_ dv!=some (Bd l[k]):=by
   show Db kQ! aY!=_;unfold Db Eg;simp[c1]
  have eb:f2 Ai w! U_ dv!=some b:=p2 rfl;have et:f2 Bc t5! dL! dv!=some (.bl zE!):=by
   show((f2 Ai B! bv_ dv!).bind λv=>Ai v G_).bind (λu=>(f2 Ai w! U_ dv!).bind λv=>Bc u v)=_;rw[ea,eb];show(Ai (Bd l[k]) G_).bind (λu=>Bc u b)=_;exact pZ (hs _ ht_) O
  have cond:fT t5_ dv!=some zE!:=by
   unfold fT;rw[et];rfl
  have es:f2 Al bv_ t_ dv!=some kJ!:=by
   show pn_;simp[Al]
  by_cases z:(l[k]).1=b
  .refine y3_;exact a8k (o4:=o4) hl hs O R hR m P_ P_ _ a! a! (.inr ⟨k,r!,by rw[e1];exact congrArg some z,rfl⟩)
  .refine iL y4! ?_;refine a8k (o4:=o4) hl hs O R hR m P_ a _ a! a! ?_;obtain⟨B,Y⟩|⟨j,B,Y,h3⟩:=ha
   .refine .inl ⟨B,jQ!⟩;by_cases y:j=k
    .rw[y,e1];exact λx=>z (IG x)
    .exact Y j a!
   .exact y5!
def CY.wr{l:ac!}{a:Nat}(h:CY l b l.length a)(nd:(ei_).Nodup):wrT b nw l=l.take a++nw++l.drop a/\a<=O!:=by
 obtain⟨rfl,Y⟩|⟨j,B,Y,rfl⟩:=h
 .have nb:b∉l.map b!:=λz=>by
   obtain⟨j,hj⟩:=LM.mp z;rw[HY]at hj;have:j<O!:=by
    cases e:l[j]? with
    |none=>rw[e]at hj;cases hj
    |some q=>exact(HC.mp e).1
   exact Y j this hj
  unfold wrT;rw[GL nb];simp
 .have hj:l[j]?=some l[j]:=HE B;rw[hj]at Y;have O:(cj_).1=b:=IG Y;have e:l=l.take j++l[j]::l.drop (j+1):=by rw[<-KU B,List.take_append_drop]
  have nb:b∉(l.take j).map b!:=λz=>by
   rw[e]at nd;simp only[HM,GM]at nd;rw[HU]at nd;exact nd.2.2 _ z _ c_ O.symm
  have ur:b∈l.map b!:=by rw[<-O];exact GP (IV B)
  refine⟨?_,r!⟩;unfold wrT;rw[GU ur]
  conv=>lhs;rw[e]
  rw[wU O nb,MV B];simp only[IY,MD,JF]
def b4d(h n:Int)(s:Str):s.cps.toList.zipIdx.map d4!=(pE!).map λk=>(D.tup oD_,D.str kS_,true):=by
 apply QK;intro i;rw[HY,HY,PJ];by_cases c:i<gS!
 .have c':i<ag_:=by simpa[Str.length]using c
  rw[HE c,List.getElem?_range c'];simp[sgn,List.getD,HE c];simp at c;simp[c]
 .have c':¬i<ag_:=by simpa[Str.length]using c
  rw[IS a!,IS bd_];rfl
def d1m{f g k:d_}(B:kT!)(Y:kT_)(h3:k ρ=some c):Av (Ac f zE_) ρ=some (.tup cR_):=by simp[Av,Ac,Ag,B,Y,h3]
def b0s{h n:Int}{s:Str}{R:q!}(hL:T_)(wi:Bx W)(hB:hA!<5000)(ht:zx_)(ha:dX!)(hk:dk_)(O:Sd b)(ZK:jD_)
  (hR:∀M' ρ',Bq M' w rl (setT W a (wrT b d6! ao!))->Sq M rl M' rl->R cl_ M'):
  Sm pE_ M R:=by
 show Ah (An 5 (w2 Bt _ _)) _ pE_ M R;unfold Ah An;rw[b6h (ρ:=pE_) hL rfl kS! hk ha];show Dk m6! c9! CA zF! M _;have er:Fi t4_ zF!=some ((List.range (ao!).length).map λi=>D.int cM!):=a1g (by
  show Bm [.lst eo!]=_;simp[Bm]) a!
 simp only[Dk,Kt,er,Dw,List.range_eq_range'];refine a8k (M:=M) (o4:=.non) ht (λq hq=>(zC!).sd) O _ (λat_ y RK=>?_) (ao!).length 0 0 none a! a! ze_;obtain⟨ew,ux⟩:=RK.wr (nw:=s.cps.toList.zipIdx.map d4!) (wi.snd a ha);have cb:Fi t7_ [z!,K_,fA_,bm!,y4,hB_,pF!,y,none,none]=some ((pE!).map λi=>D.int cM!):=a1g (by
  show Bm [d6_]=_;simp[Bm,big];omega) a!
 simp only[Ca,Kt,cb,Dw];refine dq!;refine cW fm! (λd=>match d with|.int k=>Bd zG!|_=>.non) trivial _ _ bQ! ?_
 .obtain⟨k,cr,rfl⟩:=HB.mp hd;have hk2:=MZ.mp cr;refine⟨fB!,rfl,he!,dq_⟩;have e1:f2 Al w! (Av a0!) fB!=some (.tup zG_):=rfl;have e2:f2 Ai s_ at! fB!=some a8_:=by
   show Ai fg! aB_=_;exact ix3
  have hc:k<gS!:=by simpa[Str.length]using hk2
  have e3:Ai a8_ hA_=some (.str kS_):=by
   show(if ag_<=big then(Db s.cps.toList aY!).map _ else none)=_;rw[dn!];have:Db s.cps.toList aY!=some (s.cps.toList.getD k 0):=by
    unfold Db Eg;rw[aX_,aX_];simp only[LG,LB];rw[HE hc,List.getD_eq_getElem?_getD,HE hc];rfl
   rw[this];rfl
  have e4:f2 Ai mZ_ n! fB!=some (.str kS_):=by
   show(f2 Ai s_ at! fB!).bind (λv=>Ai v hA_)=_;rw[e2];exact e3
  have e5:Av t8! fB!=some (Bd (.tup zG_,.str kS_,true)):=by
   exact d1m e1 e4 rfl
  simp only[wl,e5];exact hK
 rw[ki_,II];have en:(pE!).map ((λd=>match d with|.int k=>Bd zG!|_=>D.non)∘λi=>D.int cM!)=(d6!).map Bd:=by
  rw[b4d,II];apply IQ;intro k _;simp
 rw[en];show By bh! _ _ [z!,K_,fA_,bm!,y4,hB_,pF!,y,some (.lst ((d6!).map Bd)),none] M _;have hnl:(d6!).length=ag_:=by simp[Str.length]
 refine b7h (l:=wrT b d6! ao!) hL wi.nd hB rfl kS! hk ha zB! λM' g1 g2=>hR M' _ g1 g2;generalize hnw:s.cps.toList.zipIdx.map d4!=nw at *;have s1:Ep B! Au eW! pG!=some pG_:=c1b kM!;have s2:Ep B! eW! Au pG!=some zJ_:=a7v kM!;have b1:Al pG_ kU!=some zK!:=by
  show g6!;rw[kM_]
 have b2:Al zK! zJ_=some zL!:=by
  show g6!;rw[kM_,ew];simp
 have ev:f2 Al t9_ ua! pG!=some zL!:=by
  show((Ep B! Au eW! _).bind λu=>Al u kU!).bind (λu=>(Ep B! eW! Au _).bind λv=>Al u v)=_;rw[s1,s2];show(Al pG_ kU!).bind (λu=>Al u _)=_;rw[b1];exact b2
 simp only[wl,ev];exact hK
def cM{f:d_}(h:cE_)(K:v_):wl f ρ M K=K d M:=by simp only[wl,h]
def c0t{h n:Int}{R:q!}(hL:T_)(wi:Bx W)(hB:hA!<4000)(hl:aw!<3900)(hn:zM_)(ha:Sd a)(hk:dk_)(O:Sd b)
  (hR:∀M' ρ' af rows',Oz W.rows ad! cF_ b rows'->Bq M' w af (Fh W ad! rows')->Sq M rl M' af->R cl_ M'):
  Wu hD_ M R:=by
 obtain⟨wt,wn,qa,hA⟩:=id hL;obtain⟨e0,hw⟩:=hA.mw;obtain⟨e1,ht⟩:=hA.mt;obtain⟨e2,wz⟩:=hA.mn;have bc:∀{c d:xh!},rl c≠rl d->c≠d:=λh z=>h jF_;have VX:w≠wt:=bc (by rw[hA.rw_,hA.rt];simp);have wwn:w≠wn:=bc (by rw[hA.rw_,hA.rn];simp);have tn:wt≠wn:=bc (by rw[hA.rt,hA.rn];simp);show Ah (An 4 (Vm (w2 bv! _ _) _)) _ hD_ M R;unfold Ah An Vm wT;rw[pU (ρ:=hD_) hL rfl kS! hk];have er:f2 Bc eI_ ib! hD_=some (.bl zN!):=by
  show(f2 Ai w! t_ hD_).bind (λu=>Bc u f3!)=_;exact pZ ha (hJ _)
 have key:∀g:Bool,(g=true↔(a∈W.its\/a=root))->
   Ah m3! (Ah m3_ m4_)
    (bW!) M R:=by
  intro g hg;have f7:Dm ad!=some (some (.inr [.inl h,.inl n])):=rfl;unfold Ah By;have f3:∀g',Aa 3 [z!,K_,some eb!,bm!,some (.bl g'),none,none,none,none,none]=some ad!:=λ_=>rfl;have fl:Dv Ag bW!=some bU_:=rfl;rw[cM fl];rw[ixw (M:=M) (ρ:=bW!) (s:=hn_) rfl hw k3t];have gu:=gD (y:=gR!) (v:=kV_) ht f7 cL_;simp only[wl,f3,gu,Dw];rw[zO hn];generalize hM1:Ay M wt zN_=M1;have VY:M1 w=some (.dct hv! e0):=by rw[<-hM1,mup_ne VX];exact hw
  have VZ:M1 wn=some (.dct hE! e2):=by rw[<-hM1,mup_ne (GN tn)];exact wz
  have RL:M1 wt=some zN_:=by rw[<-hM1];exact mup_same
  have m1:∀c,c≠wt->M1 c=M c:=λc hc=>by rw[<-hM1];exact mup_ne hc
  refine⟨W!,hl!⟩;have qw:w≠q:=aS (by rw[VY];simp) hq;have qt:wt≠q:=aS (by rw[RL];simp) hq;have qn:wn≠q:=aS (by rw[VZ];simp) hq;have m2w:Ay M1 q d7! w=some (.dct hv! e0):=(mup_ne qw).trans VY;have m2n:Ay M1 q d7! wn=some (.dct hE! e2):=(mup_ne qn).trans VZ;show w2 Bt i! m2_ bW! (Ay M1 q d7!) _;rw[ixw (M:=Ay M1 q d7!) (ρ:=bW!) (s:=h4_) rfl m2w k3n];have hpm2:=gD (y:=gR!) (v:=.fn q) m2n f7 cL_;simp only[wl,f3,hpm2,Dw];rw[zO hn];generalize oy:Ay (Ay M1 q d7!) wn zO_=M3;have Mq:∀c,M c≠none->c≠q:=λc hc=>by
   by_cases z:c=wt
   .rw[z];exact qt
   .exact aS (N:=M1) (by rw[m1 c z];exact hc) hq
  have m3:∀c,c≠wt->c≠q->c≠wn->M3 c=M c:=λc B Y h3=>by rw[<-oy,nC!,cB_,m1 c B]
  have V5:M3 wt=M1 wt:=by rw[<-oy,mup_ne tn,mup_ne qt]
  have V6:M3 wn=some zO_:=by rw[<-oy];exact mup_same
  have V7:M3 q=some d7!:=by rw[<-oy,mup_ne (GN qn),mup_same]
  have m3w:M3 w=M w:=m3 w VX qw wwn
  let j8:D->Addr:=λi=>if i=.tup S_ then q else qa i
  let af:Addr->LR:=λc=>if c=q then .q ad! else rl c
  have ah:∀c,M c≠none->af c=rl c:=λc hc=>GL (Mq c hc);have lw:M w≠none:=by rw[hw];simp
  have lt:M wt≠none:=by rw[ht];simp
  have ln:M wn≠none:=by rw[wz];simp
  have RM:Bq M3 w af (Fh W ad! W.rows):=by
   refine⟨wt,wn,j8,⟨⟨e0,by rw[m3w];exact hw⟩,⟨Ge en_ ad! e1,?_⟩,⟨Ge hE! ad! e2,?_⟩,fq!,(ah w lw).trans hA.rw_,(ah wt lt).trans hA.rt,(ah wn ln).trans hA.rn,ke_⟩⟩
   .rw[V5,RL];congr 2;show _=(zQ!).map _;rw[HM];congr 1
    .apply IQ;intro i hi;show(i,D.lst kF!)=(i,D.lst ((if i=.tup S_ then[]else W.txt i).map Bd));rw[zQ_]
    .show[(D.tup S_,D.lst [])]=[(D.tup S_,D.lst ((if D.tup S_=.tup S_ then[]else W.txt ad!).map Bd))];rw[l!];rfl
   .rw[V6];congr 2;show _=(zQ!).map _;rw[HM];congr 1
    .apply IQ;intro i hi;show(i,D.fn fw_)=(i,D.fn (if i=.tup S_ then q else qa i));rw[zQ_]
    .show[(D.tup S_,D.fn q)]=[(D.tup S_,D.fn (if D.tup S_=.tup S_ then q else qa ad!))];rw[l!]
   .have dw:i∈W.its++[D.tup S_]:=hi;obtain z|z:=GT.mp dw
    .obtain⟨g1,g2⟩:=hA.mq i z;have ni:i≠.tup S_:=λy=>hn (y▸z);have eq:j8 i=qa i:=GL ni;have lq:M fw_≠none:=by rw[g1];simp
     rw[eq];refine⟨?_,(ah _ lq).trans g2⟩;rw[m3 _ (bc (by rw[g2,hA.rt];simp)) (Mq _ lq) (bc (by rw[g2,hA.rn];simp)),g1];show some (Oc.lst js_)=some (Oc.lst (if i=.tup S_ then _ else W.num i));rw[GL ni]
    .rw[GY]at z;subst z;have eq:j8 ad!=q:=GU rfl;rw[eq];refine⟨?_,l!⟩;rw[V7];show _=some (Oc.lst (if D.tup S_=.tup S_ then[.int 0,.int 0,.int 0,.int 0]else _));rw[l!]
   .by_cases z:c=q
    .rw[z,V7];simp
    .have a7:rl c≠.oth:=by rw[<-(GL z:af c=rl c)];exact hc
     have lc:=hA.live c a7;by_cases z1:c=wt
     .rw[z1,V5,RL];simp
     .by_cases z2:c=wn
      .rw[z2,V6];simp
      .rw[m3 c z1 z z2];exact lc
  have F1:Sq M rl M3 af:=λc hc hr=>⟨m3 c (bc (by rw[hr,hA.rt];simp)) (Mq c hc) (bc (by rw[hr,hA.rn];simp)),(ah c hc).trans hr⟩;have ep:Lx (fT O_) eI_ ic! bW!=some cF_:=by
   have e4:fT O_ bW!=some g:=rfl;unfold Lx;show(if g=true then f2 Ai w! t_ bW! else some Bo)=_;rw[p1 (k:="put") (a:=a) (r:=[b]) rfl];by_cases c:a∈W.its\/a=root
   .rw[GU (hg.mpr c),GU (c.elim .inl λz=>.inr jp_)]
   .rw[GL λz=>c (hg.mp z)];by_cases c2:Ff W a
    .rw[GU c2];obtain z|z|z:=c2
     .exact absurd jp_ c
     .exact absurd e5! c
     .rw[z]
    .rw[GL c2]
  have eb:f2 Ai w! U_ bW!=some b:=p2 rfl;have f0:Aa 0 bW!=some ck!:=rfl;have hc:∀(K:v_),Gi [bp!,gR!,cF_,b] M3 K->Ao 4 Gi t2! bW! M3 K:=λK hK=>by
   simp only[Ao,Ab,Af,wl,f0,f3,ep,eb];exact⟨rfl,hK⟩
  refine gG (hc _ (a8i RM dg! (.inr (.inr (.inr ⟨[h,n],rfl⟩))) (by split;exact ha;exact hJ _) O (by show aw!<_;omega) λM' rows' sh cz hF'=>?_))
  .obtain⟨z1,z2,_⟩:=tX wi q hq;exact⟨z1.sd,z2,z1.nn.1⟩
  .exact hR M' _ af rows' sh cz (F1.trans hF')
 by_cases c:a∈W.its
 .rw[HN c];exact key true (by simp[c])
 .rw[GZ c];simp only[wl,er];exact key zN! (by simp[c])
end
structure Qy(W:OW)(hb:Nat):Prop where
 rows:aw!<=hb
 its:hA!<=hb
 txt:∀x,(aE_).length<=hb
def Oz.len{rows rows':g!}(h:gC_):rows'.length<=pI!+1:=by
 obtain⟨u,v,e1,e2,_⟩:=h;have B:(cA!).length<=pI!:=by unfold wo;exact LP _ _
 rw[e1,GW]at B;rw[e2,GW,GS];omega
def Qy.stp{W:OW}{hb:Nat}(l:cN_)(h:pI_):Qy W' a8!:=by
 have l1:=l.rows;have l2:=l.its;have l3:=l.txt;have same:Qy W a8!:=⟨r!,r!,λx=>by have:=l3 x;omega⟩;cases h with
 |put _ _ hg=>
  have:=hg.len;refine⟨by show _<=_;unfold Fh;simp only;omega,by unfold Fh;simp only[GW,IM];omega,jl_⟩;unfold Fh;simp only;split
  .simp
  .have:=l3 x;omega
 |mvY _ _ _ _ hg=>
  have:=hg.len;exact zW_
 |mvN=>exact same
 |drY _ _ hg=>
  have:=hg.len;exact zW_
 |drN=>exact same
 |@wrt a b s h m _ _ hs e=>
  split
  .refine zX!;unfold setT;simp only;split
   .obtain⟨u,v,e1,e2,_⟩:=qJ b hc! ao!;have:=l3 a;rw[e1,GW]at this;rw[e2];have bu:gS!<=16:=hs;simp only[GW,GX,ML];omega
   .have:=l3 x;omega
  .exact same
 |cut=>
  split
  .refine zX!;unfold setT;simp only;split
   .unfold cutT;rw[GX];exact same.txt _
   .exact same.txt x
  .exact same
 |set=>
  split
  .exact⟨same.rows,same.its,same.txt⟩
  .exact same
section
variable{M:Mh}{R:D->Mh->Prop}{w:xh!}{rl:Addr->LR}{W:OW}{ρ:Ad}{pre:List D}
def a0s{i:Nat}{f:d_}{q:WS}{R:q!}(h:cE_)(k:q bN_ M R):Ah (An i (wl f)) q ρ M R:=by unfold Ah An;rw[cM h];exact k
def c6b{g:WF}{f1 f2 f3 f4:d_}{K:v_}(B:fc_)(Y:fd!)(h3:kf!)(h4:f4 ρ=some d)(k:g [a,b,c,d] M K):Ao 4 g xK! ρ M K:=by unfold Ao Ab Af;rw[cM B,cM Y,cM h3,cM h4];exact pJ_
def kT(h:px!)(e:(k==k)=true):knd k ρ=some true:=by rw[b9n h,e]
def kF(h:px!)(e:ke!=false):knd k' ρ=some false:=by rw[b9n h,e]
def FM:WS:=Ax zp_ Wt zq!
def FN:WS:=Ax zo_ m5! (Ax zp! m5_ FM)
def Yi:WS:=Ax zo! Wu FN
def c2l:Wq=Ah m0! (Ah m0_ Yi):=c2m
def Sn(w:xh!)(x0 d nm:D):Ad:=[z!,K_,some d,fA!,none,none,none,none,none,none]
def dv0:Aa 0 zX_=some ck!:=rfl
def nI:Aa 2 zX_=some d:=rfl
def Yy(W:OW)(M:Mh)(w:xh!)(rl:cL!)(n d:D)(R:q!):Prop:=∀M' af W' ρ',Ra W n d W'->Bq M' w af W'->Sq M rl M' af->R cl_ M'
def c8t{h n:Int}{hb:Nat}{R:q!}(hL:T_)(wi:Bx W)(ax:cN_)(hB:ep!)(hn:zM_)(ha:Cv a)(O:Me b)
  (hR:Yy W M w rl ad! eb! R):Yi (Sn w x0 eb! ad!) M R:=by
 show"!1";have l1:=ax.rows;have l2:=ax.its;refine ifT (kT nI b9p) ?_;exact c0t hL wi a! a! hn ha.sd bm O.sd λM' ρ' af rows' hg cz hF=>hR M' af _ ρ' (.put ha O hg) cz hF
def c4n{hb:Nat}{R:q!}(hL:T_)(wi:Bx W)(ax:cN_)(hB:ep!)(ha:Cv a)(O:Cv b)(hc:Me c)
  (hR:Yy W M w rl nm g2! R):Yi (Sn w x0 g2! nm) M R:=by
 show"!1";obtain⟨kb,k8⟩:=cL O;have l1:=ax.rows;refine iL (kF nI iN) ?_;refine ifT (kT nI a3b) ?_;refine gG (c6b dv0 (p1 nI) (p2 nI) (p3 nI) ?_);refine a8h hL wi a! ha.sd O.sd hc.sd bm k8 λM' W' B Y cz hF=>?_;by_cases g:a∈W.its/\Ff W b/\¬Wn W.rows a b
 .obtain⟨rows',hg,e⟩:=B g;rw[e]at cz;exact hR M' rl _ _ (.mvY ha O hc g hg) cz hF
 .rw[Y g]at cz;exact hR M' rl _ _ (.mvN ha O hc g) cz hF
def c4o{hb:Nat}{R:q!}(hL:T_)(wi:Bx W)(ax:cN_)(hB:ep!)(ha:Cv a)
  (hR:Yy W M w rl nm g2_ R):Yi (Sn w x0 g2_ nm) M R:=by
 show"!1";have l1:=ax.rows;refine iL (kF nI iO) ?_;refine iL (kF nI gX) ?_;refine ifT (kT nI a3c) ?_;refine gG (c6b (c:=Bo) (d:=.non) dv0 (p1 nI) rfl rfl ?_);refine a8h (kx:=oM_) hL wi a! ha.sd (hJ _) aA! bm rfl λM' W' B Y cz hF=>?_;by_cases g:a∈W.its/\Ff W Bo/\¬Wn W.rows a Bo
 .obtain⟨rows',hg,e⟩:=B g;rw[e]at cz;exact hR M' rl _ _ (.drY ha g hg) cz hF
 .rw[Y g]at cz;exact hR M' rl _ _ (.drN ha g) cz hF
def c8s{p v:Int}{hb:Nat}{R:q!}(hL:T_)(wi:Bx W)(ax:cN_)(hB:ep!)(ha:Cv a)(h0:0<=p)(h3:p<=3)
  (hR:Yy W M w rl nm kc! R):Yi (Sn w x0 kc! nm) M R:=by
 show"!1";have st:=Ra.set (W:=W) (n:=nm) (v:=v) ha h0 h3;refine iL (kF nI nX) ?_;refine iL (kF nI lK) ?_;refine iL (kF nI lL) ?_;refine anT (kT nI b9o) pK! dv_ dv_
 .show"#;";exact c0s hL wi c' bm dv0 nI h0 h3 λM' cz hF=>hR M' rl _ _ st cz hF
 .show"#:";refine anF (kF nI kA) ?_;refine anF (kF nI nZ) ?_;show"#5"
def c0r{h n:Int}{s:Str}{hb:Nat}{R:q!}(hL:T_)(wi:Bx W)(ax:cN_)(hB:ep!)(ha:Cv a)(O:Kk b)(hs:jD_)
  (hR:Yy W M w rl ad! fg! R):Yi (Sn w x0 fg! ad!) M R:=by
 show"!1";have l2:=ax.its;have l3:=ax.txt a;have st:=Ra.wrt (W:=W) (n:=gR!) ha O hs rfl;refine iL (kF nI jZ) ?_;refine iL (kF nI iW) ?_;refine iL (kF nI iX) ?_;refine anF (kF nI a2u) ?_;refine anT (kT nI a6v) pK! dv_ dv_
 .show"#;";exact b0s hL wi a! a! c' bm O.sd hs λM' ρ' cz hF=>hR M' rl _ _ st cz hF
 .show"#:";refine anF (kF nI a2v) ?_;show"#5"
def c8u{x y z m:Int}{hb:Nat}{R:q!}(hL:T_)(wi:Bx W)(ax:cN_)(hB:ep!)(ha:Cv a)(h0:0<=z)(B:1<=m)(Y:z+m<=16)
  (hR:Yy W M w rl nm eb_ R):Yi (Sn w x0 eb_ nm) M R:=by
 show"!1";have l2:=ax.its;have l3:=ax.txt a;have st:=Ra.cut (W:=W) (n:=nm) (x:=x) (y:=y) ha h0 B Y;refine iL (kF nI oA) ?_;refine iL (kF nI lM) ?_;refine iL (kF nI lO) ?_;refine anF (kF nI b0f) ?_;refine anF (kF nI kB) ?_;refine anT (kT nI b9q) pK! dv_ dv_
 .show"#;";exact c0u (g4:=nm) (r5:=nm) (r6:=nm) (r7:=nm) (r8:=nm) hL wi a! a! c' bm B a! λM' ρ' cz hF=>hR M' rl _ _ st cz hF
 .show"#:";show"#5"
def c7c(o:Op):Ai o.v aB_=some o.d:=by simp[Op.v,Ai,Db,Eg]
def vP(o:Op):Ai o.v G_=some bD_:=by simp[Op.v,Ai,Db,Eg]
def a1k(o:Op):Ai o.v aS!=some (.int o.n):=by simp[Op.v,Ai,Db,Eg]
def c0i{f g:d_}(B:kT!)(Y:kT_):Av (Ac f (Ac g Ag)) ρ=some hv_:=by simp[Av,Ac,Ag,B,Y]
def c9u{o:Op}{hb:Nat}(hL:T_)(hw:dp!)(hn:o.nm∉pre)(hd:DG o.d)(hu:Gk o.d=none)(ax:cN_)(hB:ep!)
  (hR:∀M' af W',Ra W o.nm o.d W'->Bq M' w af W'->Sq M rl M' af->R .non M'):Vi [bp!,o.v] M R:=by
 refine m_;rw[c2l];have e3:f2 Ai s_ at! z0_=some o.d:=c7c o;refine a0s (ρ:=z0_) e3 ?_;have e0:Av t0! z1!=some o.nm:=c0i (vP o) (a1k o);refine a0s (ρ:=z1!) e0 ?_;generalize hK:wg!=K;have gq:Yy W M w rl o.nm o.d K:=λM' af W' ρ' B Y h3=>by rw[<-hK];exact hR M' af W' B Y h3
 have vb:o.nm∉W.its:=λz=>hn (hw.its _ z);clear hR hK e3 e0 hn;obtain⟨h,n,tm,d⟩:=o;generalize Op.v ⟨h,n,tm,d⟩=v;change Yi (Sn w v d ad!) M K;change Yy W M w rl ad! d K at gq;change D.tup S_∉W.its at vb;change DG d at hd;change Gk d=none at hu;cases hd with
 |put ha O=>exact c8t hL hw.inv ax hB vb ha O gq
 |move ha O hc=>exact c4n hL hw.inv ax hB ha O hc gq
 |drop ha=>exact c4o hL hw.inv ax hB ha gq
 |write ha O _ _ hs=>exact c0r hL hw.inv ax hB ha O hs gq
 |cut ha hs B Y=>
  obtain⟨_,_,_,e,_,_,_,_,z0,_⟩:=hs;cases e;exact c8u hL hw.inv ax hB ha z0 B Y gq
 |set ha B Y _=>exact c8s hL hw.inv ax hB ha B Y gq
 |undo _=>rw[lZ]at hu;exact absurd hu (by simp[show oT!=true from by decide+kernel])
 |redo _=>rw[lZ]at hu;exact absurd hu (by simp[show oT_=true from by decide+kernel])
end
def Qy.mono{W:OW}{hb B':Nat}(l:cN_)(h:hb<=B'):Qy W B':=⟨HR l.rows h,HR l.its h,λx=>HR (l.txt x) h⟩
section
variable{M:Mh}{R:D->Mh->Prop}{w:xh!}{rl:Addr->LR}{W:OW}{ρ:Ad}{pre:List D}
def Bq.keep{M':Mh}(h:T_)(k:yD_):Bq M' w rl W:=by
 show"!x";refine⟨wt,wn,qa,⟨?_,?_,?_,fq!,hA.rw_,hA.rt,hA.rn,be!⟩⟩
 .rw[k w py_];exact hA.mw
 .rw[k wt pq!];exact hA.mt
 .rw[k wn y8!];exact hA.mn
 .obtain⟨B,Y⟩:=hA.mq i hi;exact⟨(k _ pq_).trans B,Y⟩
 .rw[k b O];show"#,"
def Bq.live(h:T_)(O:rl b≠.oth):M b≠none:=by obtain⟨wt,wn,qa,hA⟩:=h;exact hA.live b O
def d1q{ep:Nat}{fo fa fb:d_}(hp:bO_)(h0:fB_)(B:pM!)(Y:fb ρ=some z)(hk:ch_)(K:v_)(hK:K ((hy_).getD z) M):Ho ce! eh_ hj! ρ M K:=by
 have c:Ek M x!=some kJ_:=by simp[Ek,hp]
 simp only[Ho,wl,h0,B,Y,c,Dw,hk];exact hK
def tJ{g:WF}{f1 f2:d_}{K:v_}(B:fc_)(Y:fd!)(k:g af! M K):Ao 2 g wf_ ρ M K:=by unfold Ao Ab Af;rw[cM B,cM Y];exact pJ_
def a8c{g:WF}{f1:d_}{K:v_}(B:fc_)(k:g [a] M K):Ao 1 g (Ab jM! Af) ρ M K:=by unfold Ao Ab Af;rw[cM B];exact pJ_
def FD:WT:=Gs ui_ uk_
def FE:WS:=Ax FD ul_ Ch
def d1i{ft:WT}{q1 q2:WS}{b:Bool}{R:q!}(h:z4!)(k1:zs_)(k2:zt!):Ax ft q1 q2 ρ M R:=by
 refine h _ ?_;cases b with
 |true=>rw[l!];exact k1 rfl
 |false=>rw[av_];exact k2 rfl
def c1u{ft fu:WT}{b:Bool}{c:Bool}(h:z4!)(Y:b=true->∀K:Bool->Mh->Prop,K c M->fu ρ M K)(K:fu_)(hK:K (b&&c) M):Gs ft fu ρ M K:=by
 refine h _ ?_;cases b with
 |true=>rw[l!];exact Y rfl K (by simpa using hK)
 |false=>rw[av_];simpa using hK
def c3p{e0:Nat}{x:Op}(k9:z4_)(hd:DG x.d)(hp:M p=some (.dct kb e0))(K:fu_)
  (hK:K (decide z5_) M):FD pM_ M K:=by
 obtain⟨k,r,e,hn,hs⟩:=d1t hd;have i0:f2 Ai ms_ C_ pM_=some T!:=b9v e;have hu:(! pk!)=decide pN!:=by
  cases hu:Gk x.d with
  |none=>
   obtain⟨B,Y⟩:=hn hu;rw[yT!,yT_,B,Y];rfl
  |some u=>
   obtain⟨g1,g2,hk,iu⟩:=hs u hu;rw[b1d hk];rfl
 obtain⟨kn,f7⟩:=a9v x;have hz:(∃b:Bool,(kget kb x.nm).getD as_=.bl b/\(b=true↔kget wd x.nm=some b1_)):=by
  obtain⟨B,Y⟩|⟨k',B,Y⟩:=k9 x.nm
  .exact⟨false,by rw[Y];rfl,by rw[B];simp⟩
  .refine⟨k'=="undo",by rw[Y];rfl,?_⟩;rw[B];show"!O"
   .intro z;rw[eq_of_beq z]
   .intro z;rw[D.str.inj (IG z)];exact JW _
 obtain⟨b,hb1,V8⟩:=hz;have e2:Av uj_ pM_=some x.nm:=c0i (vP x) (a1k x);refine c1u (b:=decide pN!) (c:=!b) (λK' mf=>?_) (λ_ K' mf=>?_) K ?_
 .unfold wT w2;rw[cM i0,cM (f:=fC tH!) rfl,a7e];rw[hu];exact mf
 .unfold Ly wT;refine d1q hp rfl e2 rfl f7 _ ?_;rw[hb1];exact mf
 .have:(decide pN!&&!b)=decide z5_:=by
   by_cases c1:Gk x.d=none
   .by_cases c2:kget wd x.nm=some b1_
    .rw[V8.mpr c2];simp[c2]
    .have:b=false:=by
      cases b with
      |true=>exact absurd (V8.mp rfl) c2
      |false=>rfl
     rw[this,HN c1,HN (⟨c1,c2⟩:_/\_)];rfl
   .rw[GZ c1,GZ λz:_/\_=>c1 z.1];rfl
  rw[this];exact hK
def a2d{e0:Nat}(k9:z4_):
  ∀(os:o!) (x1:D) (y:ac_) (M:Mh) (rl:cL!) (W:OW) (pre:b_) (hb:Nat) (R:q!),(∀x∈os,DG x.d)->yy!->(ku!).Nodup->Bq M w rl W->Rh W pre->Qy W hb->hb+20*aP_<3800->M p=some (.dct kb e0)->rl p=.oth->
   (∀M' af W' y',Uq W o8! W'->Bq M' w af W'->o9!->Qy W' o8_->Sq M rl M' af->R (.nx [G!,z!,I!,y']) M')->
   Fx V_ I_ FE aI! [G!,z!,I!,y] M R
 |[],x1,y,M,rl,W,pre,hb,R,_,_,_,hL,hw,ax,_,_,_,hR=>⟨trivial,hR M rl W y .nil hL ⟨pre,hw⟩ pO! .refl⟩
 |x::os,x1,y,M,rl,W,pre,hb,R,hd,hp,nd,hL,hw,ax,hB,w9,jq,hR=>by
  refine aO!;simp only[GS]at hB hR;rw[GM,HA]at nd;have jn:=hd x GO;refine d1i (c3p k9 jn w9) dv_ dv_
  .have c':=JK c;have ee:Pf wd hq!=x::Pf wd os:=by unfold Pf;rw[IT z8_]
   refine gG (tJ rfl rfl (c9u hL hw kw! jn c'.1 ax a! λM1 gf W1 hs RM hF=>?_));have hq:=hF p (by rw[w9];simp) jq;refine a2d k9 os x1 pa_ M1 gf W1 (pre++[x.nm]) a8! R pb_ yD! nd.2 RM (a0l hs hw kw!) (ax.stp hs) a! (hq.1.trans w9) hq.2 (λM' af W' y' g1 g2 g3 g4 g5=>hR M' af W' y' (by rw[ee];exact .cons hs g1) g2 g3 z9! (hF.trans g5));obtain z|z:=GT.mp z
   .exact hp y dW_ z
   .rw[GY]at z;exact nd.1 yC_
  .have c':=NR c;have ee:Pf wd hq!=Pf wd os:=by unfold Pf;rw[IU z8_]
   exact a2d k9 os x1 pa_ M rl W pre a8! R pb_ pc! nd.2 hL hw pO! a! w9 jq (λM' af W' y' g1 g2 g3 g4 g5=>hR M' af W' y' (by rw[ee];exact g1) g2 g3 z9! g5)
def d2m{N:Mh}(B:N w=none)(Y:Ay N w E_ wt=none)(h3:Ay pP! wt E_ wn=none):
  ∃rl,Bq (Ay Aa! w Aa_) w rl W0/\(∀b,N b≠none->Ay Aa! w Aa_ b=N b/\rl b=.oth)/\Ay z9_ wn E_ w=some E_:=by
 have e1:w≠wt:=aS (N:=Ay N w E_) hm! Y;have e2:w≠wn:=aS (N:=pP_) (by rw[mup_ne e1,mup_same];simp) h3;have e3:wt≠wn:=aS (N:=pP_) hm! h3;have ah:∀b,N b≠none->b≠w/\b≠wt/\b≠wn:=λb O=>by
  have a1:b≠w:=aS O B;have a2:b≠wt:=aS (N:=Ay N w E_) (by rw[hE_];exact O) Y;exact⟨a1,a2,aS (N:=pP_) (by rw[mup_ne a2,hE_];exact O) h3⟩
 refine⟨λc=>if c=w then .w else if c=wt then .wt else if c=wn then .wn else .oth,⟨wt,wn,λ_=>w,⟨⟨3,mup_same⟩,pQ_,pQ_,al_,l!,?_,?_,be!⟩⟩,be!,?_⟩
 .rw[mup_ne (GN e1),mup_ne e3,mup_same];rfl
 .rw[mup_ne (GN e2),mup_same];rfl
 .show(if wt=w then _ else _)=_;rw[GL (GN e1),l!]
 .show(if wn=w then _ else _)=_;rw[GL (GN e2),GL (GN e3),l!]
 .by_cases a1:b=w
  .rw[a1,mup_same];simp
  .rw[hE_];by_cases a3:b=wn
   .rw[a3,mup_same];simp
   .rw[mup_ne a3];by_cases a2:b=wt
    .rw[a2,mup_same];simp
    .exact absurd (by simp[a1,a2,a3]) O
 .obtain⟨a1,a2,a3⟩:=ah b O;exact⟨by rw[hE_,mup_ne a3,mup_ne a2,hE_],by simp[a1,a2,a3]⟩
 .rw[mup_ne e2,mup_ne e1,mup_same]
def c1p:Qy W0 0:=⟨HD _,HD _,λ_=>HD _⟩
def d1h:((hu_).map b!).Nodup:=by
 refine HA.mpr ⟨?_,HA.mpr ⟨?_,Ab!⟩⟩
 .intro z;obtain z|z:=GJ.mp z
  .exact c5l z
  .exact c5m pR!
 .intro z;exact c5j pR!
def c3u:∀q∈k3 a b c,(Dm q.1).isSome=true:=λq hq=>by
 obtain rfl|hq:=GJ.mp hq
 .rfl
 .obtain rfl|hq:=GJ.mp hq
  .rfl
  .rw[ko!];rfl
def b4j:Ve=Ah ui!
 (Ah uh_
 (Ah (Dk mV! V_ FE)
 b0!)):=rfl
def c4p{f:WE->WS}{ρ:Ad}{K:v_}(hK:∀w M' rl,M w=none->Bq M' w rl W0->o2!->K ck! M'):
  Oq uh! ρ M K:=by
 intro w hw;refine pc (x:=.str "rows") rfl ?_;rw[cM (f:=Dv Ag) (d:=kV_) rfl];refine pc (x:=.str "texts") rfl ?_;intro wt ht;refine pc (x:=Ab_) rfl ?_;intro wn hn;obtain⟨rl,B,Y,h3⟩:=d2m hw ht hn;exact⟨h3,by show 3<=1000;decide,c3u,d1h,hK w _ rl hw B Y⟩
def c1q{ops:o!}(nd:ee_)(nn:yG!)(hl:ef!)(hd:hh!)
  (hR:∀w M' rl W',M w=none->Uq W0 (Pf hh_ aX!) W'->Bq M' w rl W'->yG_->Qy W' 1500->o2!->R ck! M'):Po ch! M R:=by
 refine m_;rw[b4j];have hp:(aX!).Perm ops:=cK ops;unfold Ah An;refine c4p (f:=λ_=>Ch) λw M1 rl hw hL fr=>?_;refine a8c (a:=.lst cJ_) rfl (b0d nd hl hd λp M2 ep db cu uv=>?_);have rp:rl p=.oth:=NZ λz=>hL.live z db;have hL2:Bq M2 w rl W0:=hL.keep λc hc=>uv c λz=>hc (by rw[z];exact rp);unfold Dk Cp;refine a8c (a:=.lst cJ_) rfl (vO nd hl ?_);refine a2d (wd:=o1!) (uP aX! [] [] λx=>.inl bI_) aX! _ none M2 rl W0 [] 0 _ (λx L=>hd x yH_) yI! yI_ hL2 b3r c1p kx! cu rp λM' af W' y' g1 g2 g3 g4 g5=>?_;refine hR w M' af W' hw g1 g2 g3 (g4.mono kx!) λb O=>?_;obtain⟨e1,e2⟩:=fr b O;have e3:M2 b=M1 b:=uv b λz=>by rw[<-e1,z,db]at O;exact O rfl
 obtain⟨e4,e5⟩:=g5 b yJ_ e2;exact⟨e4.trans (e3.trans e1),e5⟩
def xL(h:T_)(L:b9!)(hk:fs_)(hl:pR_)(hj:xU_)(hR:R v M):Hc [bp!,x] M R:=by
 refine m_;show Bf (Pr _ (Ca 1 [] un! _ _ _)) kF_ M _;unfold Bf Pr Ca Cp;rw[b6h (ρ:=kF_) h rfl (fx:=Aa 1) rfl hk L];refine Ac_;refine cW (λd=>match d with|.tup [_,_,.bl b]=>b|_=>false) (λd=>match d with|.tup [_,c,_]=>c|_=>.non) trivial _ _ bQ! ?_
 .show"!E";refine⟨[hC!],rfl,hd_,dq_⟩
  .have e1:fT dG_ [hC!]=some q.2.2:=by
    have:f2 Ai n! U_ [hC!]=some pB!:=d0g;show"!I"
   unfold Di;exact hK
  .have e1:f2 Ai n! t_ [hC!]=some q.2.1:=d0h;exact hK
 .have e2:((((aE_).map Bd).filter λd=>match d with|.tup [_,_,.bl b]=>b|_=>false).map λd=>match d with|.tup [_,c,_]=>c|_=>.non)=(dp_).map kh_:=by
   rw[MO,II];rfl
  rw[e2];show Dw (Lj kY! _) _;rw[hj];exact hR
def a7y:∀(l:ac!),(∀q∈l,∃c:Nat,q.2.1=.str al!)->∃cs:List Nat,l.map kh_=cs.map Oj/\cc!=O!
 |[],_=>wJ!
 |q::l,h=>by
  obtain⟨cs,e1,e2⟩:=a7y l λx L=>h x bP!
  obtain⟨c,e⟩:=h q GO;exact⟨c::cs,by rw[GM,GM,e1,e];rfl,by rw[GS,GS,e2]⟩
end
end K26
namespace K26
open PySem L2 DL
variable{t:Aw}
abbrev Xe:Nat:=1000000000000000000000000000000000000000000000000000000000000
def a3t{i:Int}(h:dL_<Xe):Fs [bc_]=some D_:=by
 have:iD!<1000000000000000000000000000000000000000000000000000000000000:=by unfold Xe at h;split<;>omega
 push_cast[Fs,Qk,this]
def a3v{i k:Int}(h:dL_<Xe)(h0:0<=i)(B:i<k):Gy [bc_,g0_]=some D_:=by push_cast[Gy,Qm,a3t h,h0,B]
def a3u{i:Int}(h:dL_<Xe)(B:1<=i):Dx [bc_]=some D_:=by push_cast[Dx,Mp,a3t h,B]
def rX(h:NameG x):Ed [x]=some D_:=by
 obtain⟨a,b,rfl,B,Y,h3,h4⟩:=h
 push_cast[Ed,Og,a3v (i:=a) (k:=16) fC! B Y,a3u (i:=b) fC! h3]
def sY(h:Wx x):Ec [x]=some D_:=by
 obtain⟨a,b,c,rfl,B,Y,h3,h4,h5,h6⟩:=h
 push_cast[Ec,Kz,rX ⟨a,b,rfl,B,Y,h3,h4⟩,a3v (i:=c) (k:=16) fC! h5 a!]
def oE(h:Cv x):Gx [x]=some D_:=by
 have n:∀s,Ed [d6_]=some as_:=λs=>by push_cast[Ed,Og]
 obtain rfl|rfl|h:=h
 .push_cast[Gx,Lr,n,fZ]
 .push_cast[Gx,Lr,n,fZ]
 .push_cast[Gx,Lr,rX h]
def zY(h:Me x):Fa [x]=some D_:=by
 obtain rfl|h:=h
 .push_cast[Fa,Jw]
 .obtain⟨a,b,rfl,_⟩:=id h
  push_cast[Fa,Jw,rX h]
def c0o(h:Kk x):Fw [x]=some D_:=by
 obtain rfl|h:=h
 .push_cast[Fw,Lb]
 .obtain⟨a,b,c,rfl,_⟩:=id h
  push_cast[Fw,Lb,sY h]
def c4m{i:Int}(h0:0<=i)(B:i<=3):Io [bc_]=some D_:=by push_cast[Io,Ql,a3v (i:=i) (k:=4) fC! h0 a!]
def c8o{s:Str}(h:To s=true)(B:1<=ag_)(Y:jD_):Jp [d6_]=some D_:=by
 unfold To at h;rw[HK,HQ]at h;have hl:ag_<=big:=by unfold big;omega
 have hc:=xF ce_ rfl s.cps.toList h.2;have gn:(List.map fm! s.cps.toList).all id=true:=by simp
 have z1:1<=jZ!:=by omega
 have z2:jZ!<=16:=by omega
 have hz:gS!<=big:=by simpa[Str.length]using hl
 have RN:Ey 1 [] (Zo n!) R_ aJ_ id_ [gT!]=some (.lst Ad_):=by
  show(if(s.cps.toList.map λc=>D.str al!).length<=big then Option.map D.lst (Fb R_ aJ_ id_ ce_ (s.cps.toList.map λc=>.str al!))else none)=_;rw[GX,GU hz,hc];rfl
 have hall2:Md [.lst Ad_]=some D_:=by
  simp only[Md,xI,NK,gn]
 push_cast[Jp,Rq,RN,hl,z1,z2,hall2]
def c8l(nd:t.nd):Ks t t.A0=some Gx/\Ks t t.A5=some Fa/\Ks t t.A6=some Fw/\Ks t t.A7=some Jp/\Ks t t.A8=some Ec/\
  Ks t t.A9=some Dx/\Ks t t.B0=some Io/\Ks t t.B1=some Fs/\Ks t t.B2=some Ed:=by
 unfold Aw.nd at nd;simp only[HA,GJ,HS,JO,NB]at nd;unfold Ks;refine⟨?_,?_,?_,?_,?_,?_,?_,?_,?_⟩<;>grind
def tH(ρ:Ad)(ny:ρ=pS!):∀(cs:pS_),(∀c∈cs,∃g,Ks t c.1=some g/\g [c.2]=some D_)->
  Fb eC_ aJ_ ie_ ρ kZ!=some jP_/\(kZ!).length=cc!
 |[],_=>bI_
 |c::cs,h=>by
  have ih:=tH ρ ny cs λx L=>h x bP!;obtain⟨g,B,Y⟩:=h c GO;subst ny;refine⟨?_,by simp only[GM,Kl,GS,ih.2]⟩;simp only[GM,Kl,Fb,ih.1];simp[Kj,Bn,Ol,Ac,Aa,Ag,B,Y]
def a0d:∀(cs:pS_),Lp ws!=some ws_
 |[]=>rfl
 |c::cs=>by simp only[GM,Lp,a0d cs,NK]
def iQ(cs:pS_)(h:∀c∈cs,∃g,Ks t c.1=some g/\g [c.2]=some D_)(hl:cc!<=1000):
  Hi t [.tup pT_,.tup pT!]=some D_:=by
 have hc:=tH pS! rfl cs h;have hz:cc!<=big:=by unfold big;omega
 have RN:Ey 2 [] (Zn s_ n!) eC_ aJ_ ie_ [some (.tup pT_),some (.tup pT!)]=some (.lst jP_):=by
  show(if(kZ!).length<=big then Option.map D.lst (Fb eC_ aJ_ ie_ pS! kZ!)else none)=_;rw[hc.2,GU hz,hc.1];rfl
 have gn:Md [.lst jP_]=some D_:=by
  simp only[Md,a0d,NK];simp
 push_cast[Hi,Ox,RN,gn]
def a7u(x:D)(r:b_):Bi (.tup (x::r)) do! none=some (.tup r):=by
 have B:HT.sIx (aB!+1) 0 do!=1:=by
  simp[HT.sIx]
 have Y:HT.sIx (aB!+1) (aB!+1) none=aB!+1:=by simp[HT.sIx]
 simp[Bi,Da,B,Y]
def iI{k:Str}(hk:(f4_).lookup k=some (.tup fs))(hp:Hi t [.tup r,.tup fs]=some D_)(hc:k≠"cut"):Ib t [.tup cH_]=some D_:=by
 have h0:¬(g1_+1=0):=by omega
 have he:Bc (.int (g1_+1)) G_=some as_:=by simp[Bc,Be,Hn,Eo,h0]
 push_cast[Ib,Oh,he,Xx,hk,Vj,hp,a7u,hc]
def c8r(nd:t.nd)(h:DG d):Ib t [d]=some D_:=by
 obtain⟨i1,i2,i3,i4,i5,i6,i7,i8,i9⟩:=c8l nd;have two:∀{a b:Addr×D} {P:pU!},P a->P b->∀c∈af!,P c:=λB Y c hc=>by
  simp only[GJ,HS,JO]at hc;obtain rfl|rfl:=hc
  .exact B
  .exact Y
 have xa:∀{a b c:Addr×D} {P:pU!},P a->P b->P c->∀x∈cR_,P x:=λB Y h3 c hc=>by
  simp only[GJ,HS,JO]at hc;obtain rfl|rfl|rfl:=hc
  .exact B
  .exact Y
  .exact h3
 have one:∀{a:Addr×D} {P:pU!},P a->∀x∈[a],P x:=λB c hc=>by rw[GY.mp hc];exact B
 cases h with
 |@put a b B Y=>exact iI rfl (iQ [fD!,(t.A5,b)] (two fD_ ⟨_,i2,zY Y⟩) c_) n_
 |@move a b c B Y h3=>exact iI rfl (iQ [fD!,(t.A0,b),(t.A5,c)] (xa fD_ ⟨_,i1,oE Y⟩ ⟨_,i2,zY h3⟩) c_) n_
 |@drop a B=>exact iI rfl (iQ [fD!] (one fD_) c_) n_
 |@write a b s B Y h3 h4 h5=>exact iI rfl (iQ [fD!,(t.A6,b),(t.A7,.str s)] (xa fD_ ⟨_,i3,c0o Y⟩ ⟨_,i4,c8o h3 h4 h5⟩) c_) n_
 |@cut a x y z m B Y h3 h4=>
  have hz:0<=z:=by obtain⟨_,_,_,e,_,_,_,_,q,_⟩:=Y;cases e;exact q
  have hp:=iQ (t:=t) [fD!,(t.A8,.tup jw_),(t.A9,.int m)] (xa fD_ ⟨_,i5,sY Y⟩ ⟨_,i6,a3u fC! h3⟩) c_;have he:Bc (.int 4) G_=some as_:=by simp[Bc,Be,Hn,Eo]
  have hk:(f4_).lookup ("cut":Str)=some (.tup rx_):=rfl;simp only[GM,LN]at hp
  push_cast[Ib,Oh,he,Xx,hk,Vj,hp,a7u,h4]
 |@set a p n B Y h3 h4=>exact iI rfl (iQ [fD!,(t.B0,.int p),(t.B1,.int n)] (xa fD_ ⟨_,i7,c4m Y h3⟩ ⟨_,i8,a3t h4⟩) c_) n_
 |@undo a B=>exact iI rfl Af! n_
 |@redo a B=>exact iI rfl Af! n_
def d2u{h n m:Int}(nd:t.nd)(B:0<=h)(Y:h<16)(h3:1<=n)(h4:n<=2000)(h5:1<=m)(h6:m<=1000)(hd:DG d):Bv t [.tup [aV_,aN!,d3!,d]]=some D_:=by push_cast[Bv,La,rX ⟨h,n,rfl,B,Y,h3,h4⟩,a3u (i:=m) fC! h5,c8r nd hd]
def mM(h:NameG x):Be x=true/\Hn x<=1:=by obtain⟨a,b,rfl,_⟩:=h;simp[Be,Bu,Hn,Dz]
def eJ(h:Cv x):Be x=true/\Hn x<=1:=by
 obtain rfl|rfl|h:=h
 .simp[Be,Hn]
 .simp[Be,Hn]
 .exact mM h
def a0q(h:Me x):Be x=true/\Hn x<=1:=by
 obtain rfl|h:=h
 .simp[Be,Hn]
 .exact mM h
def b1j(h:Kk x):Be x=true/\Hn x<=1:=by obtain rfl|⟨a,b,c,rfl,_⟩:=h<;>simp[Be,Bu,Hn,Dz]
def d1r(h:DG d):Be d=true/\Hn d<=2:=by
 cases h with
 |put B Y=>simp only[Be,Bu,Hn,Dz,eJ B,a0q Y,LF,OZ];have:=(fF!).2;have:=(a0q Y).2;omega
 |move B Y h3=>simp only[Be,Bu,Hn,Dz,eJ B,eJ Y,a0q h3,LF,OZ];have:=(fF!).2;have:=(eJ Y).2;have:=(a0q h3).2;omega
 |drop B=>simp only[Be,Bu,Hn,Dz,eJ B,LF,OZ];have:=(fF!).2;omega
 |write B Y=>simp only[Be,Bu,Hn,Dz,eJ B,b1j Y,LF,OZ];have:=(fF!).2;have:=(b1j Y).2;omega
 |cut B=>simp only[Be,Bu,Hn,Dz,eJ B,LF,OZ];have:=(fF!).2;omega
 |set B=>simp only[Be,Bu,Hn,Dz,eJ B,LF,OZ];have:=(fF!).2;omega
 |undo B=>simp only[Be,Bu,Hn,Dz,mM B,LF,OZ];have:=(mM B).2;omega
 |redo B=>simp only[Be,Bu,Hn,Dz,mM B,LF,OZ];have:=(mM B).2;omega
variable{t:Aw}
nonrec def hs(os:o!)(h:Int):List Op:=os.filter λo=>decide (o.h=h)
structure Zx(l:o!):Prop where
 num:∀(i:Nat) (o:Op),l[i]?=some o->o.n=cM!+1
 tim:l.Pairwise λa b=>a.tm<b.tm
structure Zu(o:Op):Prop where
 hh:o.h=0\/o.h=5\/o.h=15
 t1:1<=o.tm
 t2:o.tm<=1000
 n1:1<=o.n
 n2:o.n<=2000
 dg:DG o.d
structure Hist(os:o!):Prop where
 ch:∀h,Zx kZ_
 op:∀o∈os,Zu o
def Zx.nil:Zx []:=⟨λi o e=>by simp at e,jg_⟩
def Zx.snoc{l:o!}{o:Op}(h:Zx l)(e:o.n=(O!:Nat)+1)(ht:∀x∈l,x.tm<o.tm):Zx (l++[o]):=by
 refine⟨λi x L=>?_,?_⟩
 .obtain c|c:=KN i O!
  .rw[JH c]at L;exact h.num i x L
  .rw[IK c]at L;obtain z|z:=Nat.eq_zero_or_pos (i - O!)
   .rw[z]at L;simp at L;subst L;rw[e];omega
   .rw[IS bd_]at L;cases L
 .rw[List.pairwise_append];exact⟨h.tim,List.pairwise_singleton _ _,λa ha b O=>by rw[ld!];exact ht a ha⟩
def cR{a b:o!}{h:Int}:hs (a++b) h=hs a h++hs b h:=by unfold hs;rw[QC]
def fG{o:Op}{h:Int}:hs [o] h=if o.h=h then[o]else[]:=by
 unfold hs;by_cases c:o.h=h
 .rw[GU c,IT Ag!];rfl
 .rw[GL c,IU Ag!];rfl
def rJ{os:o!}{h:Int}{o:Op}:o∈hs os h↔o∈os/\o.h=h:=by unfold hs;rw[JP];simp
def Hist.nil:Hist []:=⟨λh=>Zx.nil,λo ho=>by cases ho⟩
def Hist.snoc{os:o!}{o:Op}(h:Hist os)(hf:Zu o)(e:o.n=((hs os o.h).length:Nat)+1)(ht:∀x∈os,x.h=o.h->x.tm<o.tm):Hist (os++[o]):=by
 refine⟨λk=>?_,aT_⟩
 .rw[cR,fG];by_cases c:o.h=k
  .rw[GU c];subst c;exact(h.ch _).snoc e λx L=>ht x (rJ.mp L).1 (rJ.mp L).2
  .rw[GL c,HP];exact h.ch k
 .obtain z|z:=GT.mp L
  .exact h.op x z
  .rw[bW_];exact hf
structure HW(i:Nat)(os:o!)(c0 c1 c2 t0 t1 t2:Int):Prop where
 hist:Hist os
 len:aP_=i
 q0:c0=Ag_
 q1:c1=Ah!
 q2:c2=Ah_
 u0:∀x∈os,x.h=0->x.tm<=t0
 u1:∀x∈os,x.h=5->x.tm<=t1
 u2:∀x∈os,x.h=15->x.tm<=t2
 b0:0<=t0/\t0<=3*i
 b1:0<=t1/\t1<=3*i
 b2:0<=t2/\t2<=3*i
def HW.nil:HW 0 [] 0 0 0 0 0 0:=⟨.nil,rfl,rfl,rfl,rfl,pV_,pV_,pV_,H!,H!,H!⟩
def Zu.ok{o:Op}(h:Zu o):Us o.v:=⟨o.h,o.n,o.tm,o.d,rfl,by obtain z|z|z:=h.hh<;>omega,by obtain z|z|z:=h.hh<;>omega,h.n1,h.n2,h.dg⟩
section
variable{i:Nat}{os:List Op}{c0 c1 c2 t0 t1 t2:Int}{m:Int}{dd:D}
def wW(os:o!)(h:Int):(kZ_).length<=aP_:=LP _ _
def HW.opok(hw:k0_):∀o∈os.map Op.v,Us o:=λo ho=>by
 obtain⟨x,L,rfl⟩:=HB.mp ho;exact(hw.hist.op x L).ok
def c7t(m:Int):0<=m / 3%3/\m / 3%3<3:=⟨KH _ c!,JQ _ c!⟩
def HW.step0(hw:k0_)(h0:0<=m)(hi:i<100)(hd:DG dd):HW a1! (os++[⟨0,c0+1,t0+1+m / 3%3,dd⟩]) (c0+1) (c1) (c2) (t0+1+m / 3%3) t1 t2:=by
 obtain⟨m1,m2⟩:=c7t m;have hc:=hw.q0;have O:=hw.b0;have hl:=wW os 0;rw[hw.len]at hl;refine⟨hw.hist.snoc ⟨cT!,by show 1<=t0+1+m / 3%3;omega,by show t0+1+m / 3%3<=1000;omega,by show 1<=c0+1;omega,by show c0+1<=2000;omega,hd⟩ (by show c0+1=Ag_+1;omega) (λx L hh=>by have:=hw.u0 x L hh;show x.tm<t0+1+m / 3%3;omega),pW!,by rw[cR,fG,l!,GW];have:=hw.q0;simp;omega,by rw[cR,fG,GL Aj!,HP];exact hw.q1,by rw[cR,fG,GL Aj_,HP];exact hw.q2,cO!,cO!,cO!,pW_,pX!,pX_⟩
 .obtain z|z:=GT.mp L
  .have:=hw.u0 x z hh;omega
  .rw[bW_];exact KW _
 .obtain z|z:=GT.mp L
  .exact hw.u1 x z hh
  .rw[bW_]at hh;exact absurd hh Aj!
 .obtain z|z:=GT.mp L
  .exact hw.u2 x z hh
  .rw[bW_]at hh;exact absurd hh Aj_
def HW.step1(hw:k0_)(h0:0<=m)(hi:i<100)(hd:DG dd):HW a1! (os++[⟨5,c1+1,t1+1+m / 3%3,dd⟩]) (c0) (c1+1) (c2) t0 (t1+1+m / 3%3) t2:=by
 obtain⟨m1,m2⟩:=c7t m;have hc:=hw.q1;have O:=hw.b1;have hl:=wW os 5;rw[hw.len]at hl;refine⟨hw.hist.snoc ⟨.inr aA!,by show 1<=t1+1+m / 3%3;omega,by show t1+1+m / 3%3<=1000;omega,by show 1<=c1+1;omega,by show c1+1<=2000;omega,hd⟩ (by show c1+1=Ah!+1;omega) (λx L hh=>by have:=hw.u1 x L hh;show x.tm<t1+1+m / 3%3;omega),pW!,by rw[cR,fG,GL Al!,HP];exact hw.q0,by rw[cR,fG,l!,GW];have:=hw.q1;simp;omega,by rw[cR,fG,GL Al_,HP];exact hw.q2,cO!,cO!,cO!,pW_,pX!,pX_⟩
 .obtain z|z:=GT.mp L
  .exact hw.u0 x z hh
  .rw[bW_]at hh;exact absurd hh Al!
 .obtain z|z:=GT.mp L
  .have:=hw.u1 x z hh;omega
  .rw[bW_];exact KW _
 .obtain z|z:=GT.mp L
  .exact hw.u2 x z hh
  .rw[bW_]at hh;exact absurd hh Al_
def HW.step2(hw:k0_)(h0:0<=m)(hi:i<100)(hd:DG dd):HW a1! (os++[⟨15,c2+1,t2+1+m / 3%3,dd⟩]) (c0) (c1) (c2+1) t0 t1 (t2+1+m / 3%3):=by
 obtain⟨m1,m2⟩:=c7t m;have hc:=hw.q2;have O:=hw.b2;have hl:=wW os 15;rw[hw.len]at hl;refine⟨hw.hist.snoc ⟨.inr gy!,by show 1<=t2+1+m / 3%3;omega,by show t2+1+m / 3%3<=1000;omega,by show 1<=c2+1;omega,by show c2+1<=2000;omega,hd⟩ (by show c2+1=Ah_+1;omega) (λx L hh=>by have:=hw.u2 x L hh;show x.tm<t2+1+m / 3%3;omega),pW!,by rw[cR,fG,GL Am_,HP];exact hw.q0,by rw[cR,fG,GL An_,HP];exact hw.q1,by rw[cR,fG,l!,GW];have:=hw.q2;simp;omega,cO!,cO!,cO!,pW_,pX!,pX_⟩
 .obtain z|z:=GT.mp L
  .exact hw.u0 x z hh
  .rw[bW_]at hh;exact absurd hh Am_
 .obtain z|z:=GT.mp L
  .exact hw.u1 x z hh
  .rw[bW_]at hh;exact absurd hh An_
 .obtain z|z:=GT.mp L
  .have:=hw.u2 x z hh;omega
  .rw[bW_];exact KW _
end
section
variable{ρ:Ad}
def b7i{i:Nat}{fx fv:d_}{j:Int}{ds:b_}{k:Nat}(hv:fv ρ=some d)(L:Ao!)(hl:pY_)(hk:Eg ds.length j=some k):Uh i fx fv ρ=some (.nx wx_):=by unfold Uh;rw[hv,L,hl];show(ok!).map _=_;rw[hk];rfl
def a3h{i:Nat}{fx:d_}{j:Int}(L:Ao!)(hl:pY_)(h:Db ds j=some d):Lo i fx ρ=some d:=by unfold Lo;rw[L,hl];exact h
def c9p{i:Nat}{f:d_}{ds:b_}(hf:cE_)(hl:pY_)(O:f_<big):My i f ρ=some wv!:=by unfold My;rw[hf,hl];show(if f_<big then _ else _)=_;rw[GU O]
def c6h{fs:am!}{ds:b_}(h:g7!)(hl:wZ_):Av fs ρ=some dh!:=by unfold Av;rw[h];show w0!=_;rw[w0_]
def c4i{f:d_}(h:cE_)(n:Ei d=true):Nx f ρ=some d:=by unfold Nx;rw[h];show(if Ei d=true then _ else _)=_;rw[GU n]
end
def b8z{j:Int}:Eh (.int 7) di!=some (.int (7*j)):=rfl
def b5y{ns:D!}{base j m kk a c t:Int}{os cs ts:b_}{dd:D}{k:Nat}(em:Ck [dl_,.int (base+7*j)]=some bN!)(ed:Jy [dl_,.int (base+7*j+1),.lst os,.int 5]=some dd)(nd:Ei dd=true)(z:m%3=kk)
  (hc:Db cs kk=some (.int c))(ht:Db ts kk=some (.int t))(kc:Eg cs.length kk=some k)(kt:Eg ts.length kk=some k)(a7:Db Ao_ kk=some (.int (c+1)))(ht':Db Ap_ kk=some Ap!)
  (ha:Db [D.int 0,.int 5,.int 15] kk=some (.int a))(O:aP_<big):
  Ux [X!,an_,some N,some (.lst os),some (.lst cs),some (.lst ts),some di!,x7,x8,x9]=some (.nx [X!,an_,some N,some (.lst (os++[.tup [.int a,.int (c+1),.int (t+1+m / 3%3),dd]])),some (.lst Ao_),some (.lst Ap_),some di!,some bN!,some (.int kk),some dd]):=by
 refine(bH (gZ (wY (dB rfl (dB Ar! rfl)) em))).trans ?_;refine(bH (gZ (fU rfl rfl ((a9y c!).trans jF_)))).trans ?_;refine(bH (b7i (fU (a3h rfl rfl hc) rfl rfl) rfl rfl kc)).trans ?_;refine(bH (b7i (fU (fU (a3h rfl rfl ht) rfl rfl) (fU (fU rfl rfl rfl) rfl (a9y c!)) rfl) rfl rfl kt)).trans ?_;refine(bH (gZ (c4i (wY (dB rfl (dB (fU Ar! rfl rfl) (dB rfl oy!))) ed) nd))).trans ?_;exact c9p (c6h (dB (fU rfl rfl ha) (dB (a3h rfl rfl a7) (dB (a3h rfl rfl ht') oy!))) rfl) rfl O
def b3t(ns:D!)(base:Int)(N:Nat)(hN:N<=100):∃os:List Op,Jq [dl_,.int base,.int N]=some k2!/\aP_=N/\Hist os:=by
 let P:Nat->Ad->Prop:=λi ρ=>∃(os:o!) (c0 c1 c2 t0 t1 t2:Int) (x6 x7 x8 x9:ac_),ρ=At!/\aP_=i/\HW i os c0 c1 c2 t0 t1 t2
 obtain⟨ρ',e,os,c0,c1,c2,t0,t1,t2,x6,x7,x8,x9,rfl,hl,hw⟩:=pL (bnd:=Bs 6) (q:=Ux) P fi! 0
  k3!
  ⟨[],0,0,0,0,0,0,none,none,none,none,rfl,rfl,HW.nil⟩ (by
   rintro j d ρ hd ⟨os,c0,c1,c2,t0,t1,t2,x6,x7,x8,x9,rfl,hl,hw⟩;unfold Dr at hd;rw[HY]at hd;obtain⟨i',dw,rfl⟩:=GR.mp hd;obtain⟨am,he⟩:=HC.mp dw;rw[NU]at he;subst he;rw[KZ]at am;have ho:∀o∈os.map Op.v,Us o:=hw.opok;have lu:(aI!).length<=100:=by rw[GX];omega
   obtain⟨m,em,m0,_⟩:=jS ns (k:=base+7*(j:Nat));obtain⟨dd,ed,hd⟩:=c4r ns (base:=base+7*(j:Nat)+1) (most:=5) ho lu c! c!;have nd:=b0t hd;have O:(aI!).length<big:=by unfold big;omega
   have RK:m%3=0\/m%3=1\/m%3=2:=by omega
   obtain z|z|z:=RK
   .exact⟨_,_,rfl,pZ_,_,_,_,_,_,_,_,_,_,_,_,p0!,ea_,hw.step0 a! a! hd⟩
   .exact⟨_,_,rfl,pZ_,_,_,_,_,_,_,_,_,_,_,_,p0!,ea_,hw.step1 a! a! hd⟩
   .exact⟨_,_,rfl,pZ_,_,_,_,_,_,_,_,_,_,_,_,p0!,ea_,hw.step2 a! a! hd⟩)
 refine⟨os,?_,by simpa[Dr]using hl,hw.hist⟩;have hr:-1000<=(N:Int)/\(N:Int)<=100000:=by omega
 have hf:Rb (Fi w!) c4_ Ux k3!=some (.nx At!):=by
  have hi:Fi w! k3!=some fi!:=by
   simp[Fi,Aa,hr]
  unfold Rb;rw[hi];exact e
 have hq:Qp At_=some (.rt k2!):=by
  show sSeq iJ_ (sSeq (Jv 4 iU_) (sSeq (Jv 5 iU_) (sSeq (Rb (Fi w!) c4_ Ux) (Bh F_)))) _=_;rw[bH (ρ':=[X!,an_,hG_,fv_,none,none,none,none,none,none]) rfl];rw[bH (ρ':=[X!,an_,hG_,fv_,pZ!,none,none,none,none,none]) rfl];rw[bH (ρ':=k3!) rfl];rw[bH hf];rfl
 unfold Jq Cd;rw[GU dc!];show(match Qp At_ with|some (.rt d)=>some d|some (.nx _)=>some .non|none=>none)=_;rw[hq]
def d0t{o:Op}(nd:t.nd)(h:Zu o):Bv t [o.v]=some D_:=by
 have a1:0<=o.h/\o.h<16:=by obtain z|z|z:=h.hh<;>omega
 exact d2u nd a1.1 a1.2 h.n1 h.n2 h.t1 h.t2 h.dg
def b8y{β:Type}{f:Op->β}(hf:∀a b,f a=f b->a.h=b.h):∀(os:o!),(∀h,((kZ_).map f).Nodup)->(os.map f).Nodup
 |[],_=>MB
 |o::os,H=>by
  have sub:∀h,(kZ_).Sublist (hs hp! h):=λh=>by unfold hs;exact(List.sublist_cons_self o os).filter _
  rw[GM,HA];refine⟨cK_,b8y hf os λh=>((sub h).map f).nodup (H h)⟩;obtain⟨x,L,e⟩:=HB.mp z;have hh:=hf _ _ e;have H1:=H o.h;have:hs hp! o.h=o::hs os o.h:=by unfold hs;rw[IT c_]
  rw[this,GM,HA]at H1;exact H1.1 (HB.mpr ⟨x,rJ.mpr ⟨L,hh⟩,e⟩)
def Hist.names{os:o!}(h:Hist os):(ku!).Nodup:=by
 refine b8y Av! os λk=>?_
 .show"#>";exact e.1
 .have hn:=(h.ch k).num;rw[NP,QJ,NX];intro i j hi hj UF e;have e1:=hn i _ (HE hi);have e2:=hn j _ (HE hj);show"#>";omega
def Hist.keys{os:o!}(h:Hist os):(os.map Op.key).Nodup:=by
 refine b8y Av! os λk=>?_
 .simp only[Op.key,JS]at e;exact e.2
 .rw[NP,QJ];refine(h.ch k).tim.imp λ{a b} lh e=>?_;simp only[Op.key,JS]at e;omega
end K26
namespace K26
open PySem L2 DL
open Classical
def Pu(f:WE)(ρ:Ad)(M:Mh)(d:D):Prop:=∀K:D->Mh->Prop,K d M->f ρ M K
def Tx(f:WT)(ρ:Ad)(M:Mh)(b:Bool):Prop:=∀K:Bool->Mh->Prop,K b M->f ρ M K
def Vt(g:WF)(ds:b_)(M:Mh)(d:D):Prop:=∀K:D->Mh->Prop,K d M->g ds M K
section
variable{M:Mh}{ρ:Ad}
def kL{α:Type}{x:α}{R:pm_}(h:R x):Dw (some x) R:=h
def bL{f:d_}(h:cE_):Pu (wl f) ρ M d:=λK hK=>by rw[cM h];exact hK
def gM{a:xh!}{fs:aP!}{fo:WE}(h:Pu fo ρ M dg_)(hM:M a=some gY!)(hv:fs.lookup x=some v):Pu (As C x fo) ρ M v:=λK hK=>by
 unfold As;refine h _ ?_;have:Gz C x M dg_=some v:=by simp only[Gz,hM,IL,hv]
 rw[this];exact hK
def gV{g:bT!}{fa fb:WE}(ha:Pu fa ρ M x)(O:Pu fb ρ M y)(hg:g M x y=some d):Pu (w2 g fa fb) ρ M d:=λK hK=>by
 unfold w2;refine ha _ (O _ ?_);rw[hg];exact hK
def vJ{ep:Nat}{fo fa fb:WE}(ho:Pu fo ρ M x!)(ha:Pu fa ρ M y)(O:Pu fb ρ M z)(hp:bO_)(hk:ch_)(hd:(hy_).getD z=d):Pu (Ho fo fa fb) ρ M d:=λK hK=>by
 have c:Ek M x!=some kJ_:=by simp[Ek,hp]
 unfold Ho;refine ho _ ?_;rw[c];refine ha _ (O _ ?_);rw[c,hk];show K ((hy_).getD z) M;rw[hd];exact hK
def yZ{g:hw_}{f:WE}(h:Pu f ρ M x)(hg:g M [x]=some d):Pu (w1 g (Ab f Af)) ρ M d:=λK hK=>by
 unfold w1 Ab Af;refine h _ ?_;show Dw (g M [x]) λd=>K d M;rw[hg];exact hK
def vK{g:WF}{f1:WE}{a:D}(B:k4_)(hg:Vt g [a] M d):Pu (Ao 1 g (Ab f1 Af)) ρ M d:=λK hK=>by
 unfold Ao Ab Af;exact B _ k5!
def kX{g:WF}{f1 f2:WE}{a:D}(B:k4_)(Y:Pu f2 ρ M b)(hg:Vt g af! M d):Pu (Ao 2 g (Ab f1 (Ab f2 Af))) ρ M d:=λK hK=>by
 unfold Ao Ab Af;exact B _ (Y _ k5!)
def b7l{g:WF}{f1 f2 f3:WE}{a:D}(B:k4_)(Y:Pu f2 ρ M b)(h3:Pu f3 ρ M c)(hg:Vt g cR_ M d):Pu (Ao 3 g (Ab f1 (Ab f2 (Ab f3 Af)))) ρ M d:=λK hK=>by
 unfold Ao Ab Af;exact B _ (Y _ (h3 _ k5!))
def iA{g:WF}{fo f1:WE}{a:D}(h0:Pu fo ρ M aw_)(ho:De C m M aw_)(B:k4_)(hg:Vt g [aU!,a] M d):Pu (Bb C m 2 g fo (Ab f1 Af)) ρ M d:=λK hK=>by
 unfold Bb Ab Af;exact h0 _ ⟨ho,B _ k5!⟩
def vL{f:WE}{b:Bool}(h:Pu f ρ M bI!):Tx (wT f) ρ M b:=λK hK=>by unfold wT;exact h _ hK
def b1q{f:af_}{b:Bool}(h:f ρ=some b):Tx (Di f) ρ M b:=λK hK=>by unfold Di;rw[h];exact hK
def c6r{f:WT}{b:Bool}(h:Tx f ρ M b):Tx (Ly f) ρ M (!b):=λK hK=>by unfold Ly;exact h _ hK
def jL{i:Nat}{f:WE}{q:WS}{R:q!}(h:Pu f ρ M d)(k:q bN_ M R):Ah (An i f) q ρ M R:=by unfold Ah An;exact h _ k
def eZ{f:WE}{R:q!}(h:Pu f ρ M d)(k:R aW_ M):Bf f ρ M R:=by unfold Bf;exact h _ k
def a0m{ft:WT}{q1 q2:WS}{R:q!}(h:Aw!)(k:q1 ρ M R):Ax ft q1 q2 ρ M R:=by unfold Ax;refine h _ ?_;rw[l!];exact k
def uT{ft:WT}{q1 q2:WS}{R:q!}(h:k6!)(k:hd!):Ax ft q1 q2 ρ M R:=by unfold Ax;refine h _ ?_;rw[av_];exact k
def oO{ft:WT}{q1 q2:WS}{R:q!}(h:k6!)(k:hd!):Ah (Ax ft q1 Ch) q2 ρ M R:=by unfold Ah;exact uT h k
def CO(C:xh!)(x:Str)(fo:d_)(ρ:Ad)(y:D)(M:Mh)(Q:cN!):Prop:=wl fo ρ M λd M2=>match d with
 |.fn p=>(match M2 p with|some (.obj C' fs)=>C'=C/\bq!<100/\Q (Ay M2 p pA!)|_=>False)
 |_=>False
def tV{fo:d_}{f:WE}{R:q!}(h:f ρ M λy M1=>CO C x fo ρ y M1 λM2=>R am_ M2):Ea C x ce! f ρ M R:=h
def uX{fo:d_}{f:WE}{q:WS}{R:q!}(h:f ρ M λy M1=>CO C x fo ρ y M1 λM2=>q ρ M2 R):Ah (Ea C x ce! f) q ρ M R:=h
def jM{fs u9:aP!}{fo:d_}{Q:cN!}(h0:fB_)(hM:M p=some gY!)(hl:bq!<100)(hf:Bl x y fs=u9)(k:Q (Ay M p (.obj C u9))):CO C x fo ρ y M Q:=by unfold CO;rw[cM h0];show(match M p with|some (.obj C' fs)=>C'=C/\bq!<100/\Q (Ay M p pA!)|_=>False);rw[hM];subst hf;exact⟨rfl,hl,k⟩
end
def c3k(h:cf!)(hd:Hn d<=40):Eb d d=some as_:=by unfold Eb;rw[h,pY d h,HN hd];rfl
def rE:∀{ds:b_},(∀d∈ds,Be d=true)->Bu ds=true
 |[],_=>by simp[Bu]
 |d::ds,h=>by
  unfold Bu;rw[h d GO,rE λx L=>h x bP!];rfl
def xD{n:Nat}:∀{ds:b_},(∀d∈ds,Hn d<=n)->Dz ds<=n
 |[],_=>by simp[Dz]
 |d::ds,h=>by
  unfold Dz;have B:=h d GO;have Y:=xD λx L=>h x (GI d L);omega
def c3d{o:Op}(h:DG o.d):Be o.v=true/\Hn o.v<=5:=by
 obtain⟨B,Y⟩:=d1r h;show"!O"
 .show Bu kj_=true;refine rE λd hd=>?_;simp only[GJ,HS,JO]at hd;obtain rfl|rfl|rfl|rfl:=hd
  .rfl
  .rfl
  .rfl
  .exact B
 .show Dz kj_+1<=5;have:Dz kj_<=2:=xD λd hd=>by
   simp only[GJ,HS,JO]at hd;obtain rfl|rfl|rfl|rfl:=hd
   .simp[Hn]
   .simp[Hn]
   .simp[Hn]
   .exact Y
  omega
nonrec def hF(ta wa:xh!)(out:D):List cf_:=[("ours",.int 3),("taken",.fn ta),("waiting",.fn wa),("outline",out)]
section
variable{ta wa:xh!}{out:D}
def hF1:List.lookup Ax_ dx!=some (D.int 3):=by kernel_rfl
def hF2:List.lookup Ay! dx!=some (D.fn ta):=by kernel_rfl
def hF3:List.lookup Ay_ dx!=some (D.fn wa):=by kernel_rfl
def hF4:List.lookup p0_ dx!=some out:=by kernel_rfl
def hM1:List.lookup (Str.ofString "have") dx!=none:=by kernel_rfl
def hP1:Bl Ax_ aB_ []=[fG_]:=by kernel_rfl
def hP2:Bl Ay! (.fn ta) [fG_]=k7_:=by kernel_rfl
def hP3:Bl Ay_ (.fn wa) k7_=k8!:=by kernel_rfl
def hP4:Bl p0_ .non k8!=hF ta wa .non:=by kernel_rfl
def hP5:Bl p0_ o2 dx!=hF ta wa o2:=by kernel_rfl
end
structure Cm(t:Aw)(M:Mh)(a ta wa:xh!)(out:D)(S:o!)(kl:D!)(ca:Int->Addr):Prop where
 ob:M a=some (.obj t.B3 dx!)
 tk:∃ep,M ta=some (.dct fH! ep)
 wt:M wa=some bU_
 cl:∀h∈kl,M hH_=some (.lst ((k8_).map Op.v))
 nk:kl.Nodup
 mem:∀h,h∈kl↔hs S h≠[]
 cw:∀h∈kl,ca h≠wa
 ci:∀h∈kl,∀h'∈kl,ca h=ca h'->h=h'
 len:p2!<=S.length
def gY{g:Int->D}:∀{kl:D!} {x:Int},kget (kl.map λh=>(D.int h,g h)) (.int x)=if x∈kl then some (g x)else none
 |[],x=>by simp[kget]
 |k::kl,x=>by
  rw[GM];unfold kget;by_cases e:k=x
  .subst e;simp
  .rw[GL λz=>e (D.int.inj z),gY];simp[GN e]
section
variable{t:Aw}{M:Mh}{a ta wa:xh!}{out:D}{S:List Op}{kl:List Int}{ca:Int->Addr}
def Cm.nob(hA:bE_)(hm:(dx!).lookup m=none):De t.B3 m M dg_:=by show(match M a with|some (.obj C' fs)=>C'=t.B3/\fs.lookup m=none|_=>False);rw[hA.ob];exact⟨rfl,hm⟩
def Cm.nol(hA:bE_){h:Int}(hh:h∉kl):hs S h=[]:=NZ λz=>hh ((hA.mem h).mpr z)
def a3o{h:Int}(hA:bE_):Vt (Ej t) [az!,aV_] M p2_:=λK hK=>by
 obtain⟨ep,ht⟩:=hA.tk;refine m_;show Bf so! [u_,hI!] M _;by_cases c:h∈kl
 .have hl:Pe M [.fn hH_]=some p2_:=by
   show((Qi M (.fn hH_)).map λxs=>D.int i_)=_;simp only[Qi,hA.cl h c,NK,GX]
  exact eZ (yZ (vJ k9! k9_ AB! ht (k:=p3!) rfl (by rw[gY,GU c];rfl)) hl) hK
 .have hl:Pe M [kV_]=some p2_:=by rw[hA.nol c];rfl
  exact eZ (yZ (vJ k9! k9_ AB! ht (k:=p3!) rfl (by rw[gY,GL c];rfl)) hl) hK
def a0k{o:Op}(hA:bE_):Vt (Fv t) la! M (.bl (decide (o.n<=fI!))):=λK hK=>by
 refine m_;show Bf z7! hI_ M _;exact eZ (gV (bL (a1k o)) AB_ rfl) hK
def b0g{o:Op}(hA:bE_):Vt (Gw t) la! M (.bl (o.n==fI!+1)):=λK hK=>by
 refine m_;show Bf st! hI_ M _;exact eZ (gV (bL (a1k o)) (gV AB_ AC! (d:=.int (fI!+1)) rfl) (a3q _ _)) hK
def a2e{h:Int}(hA:bE_)(e:hs S h=[]):Vt (Hh t) [az!,aV_] M G_:=λK hK=>by
 refine m_;show Ah su_ _ [u_,hI!] M _;unfold Ah;refine a0m (vL (gV (iA cn! (hA.nob hM1) k9_ (a3o hA)) er! ?_)) (eZ er! hK);rw[e];exact a3q _ _
def b5f{ρ:Ad}{R:v_}(hR:∀a ta wa M',M a=none->Cm t M' a ta wa .non [] [] (λ_=>a)->km_->R dg_ M'):Hs t.B3 2 (Lw t) ux_ ρ M R:=by
 unfold Hs Ab Af;rw[cM (f:=fC aB_) (d:=.int 3) rfl];refine⟨rfl,λa ha=>m_⟩;show Ah sn! sn_ [u_,some aB_] AD_ _;refine uX ?_;rw[cM (f:=Aa 1) (d:=.int 3) rfl];refine jM (fs:=[]) rfl mup_same c! hP1 ?_;generalize e1:Ay AD_ a AE!=M1;have a1:M1 a=some AE!:=by rw[<-e1];exact mup_same
 have o1:∀b,b≠a->M1 b=M b:=λb O=>by rw[<-e1,bo_,bo_]
 refine uX ?_;intro ta V9;have xb:a≠ta:=aS (by rw[a1];simp) V9;refine jM (fs:=[fG_]) rfl ((mup_ne xb).trans a1) c! hP2 ?_;generalize e2:Ay (Ay M1 ta E_) a AE_=M2;have a2:M2 a=some AE_:=by rw[<-e2];exact mup_same
 have WB:M2 ta=some E_:=by rw[<-e2,AF!];exact mup_same
 have o2:∀b,b≠a->b≠ta->M2 b=M b:=λb O hc=>by rw[<-e2,bo_,mup_ne hc];exact o1 b O
 refine uX ?_;refine⟨W!,λwa RO=>?_⟩;have RP:a≠wa:=aS (by rw[a2];simp) RO;have twa:ta≠wa:=aS (by rw[WB];simp) RO;refine jM (fs:=k7_) rfl ((mup_ne RP).trans a2) AF_ hP3 ?_;generalize e3:Ay (Ay M2 wa bU_) a AG!=M3;have a3:M3 a=some AG!:=by rw[<-e3];exact mup_same
 have o3:∀b,b≠a->b≠wa->M3 b=M2 b:=λb O hc=>by rw[<-e3,bo_,mup_ne hc]
 have w3:M3 wa=some bU_:=by rw[<-e3,AG_];exact mup_same
 refine tV ?_;rw[p5_];refine jM (fs:=k8!) rfl a3 AF_ hP4 ?_;refine⟨rfl,hR a ta wa _ ha ⟨mup_same,pQ_,?_,p6_,MB,λh=>by simp[hs],p6_,p6_,HD _⟩ λb O=>?_⟩
 .rw[AF!,o3 ta (GN xb) twa];exact WB
 .rw[AG_];exact w3
 .have ba:b≠a:=aS O ha;have bt:b≠ta:=aS (N:=M1) (by rw[o1 b ba];exact O) V9;have bw:b≠wa:=aS (N:=M2) (by rw[o2 b ba bt];exact O) RO;rw[mup_ne ba,o3 b ba bw,o2 b ba bt]
end
section
variable{t:Aw}{M:Mh}{ρ:Ad}{a ta wa:xh!}{out:D}{S:List Op}{kl:List Int}{ca:Int->Addr}
def cY{ep:Nat}(hp:bO_):Ek M x!=some kJ_:=by simp[Ek,hp]
def sC(hp:p7!):Ja M x!=some (p,xs):=by simp[Ja,hp]
def ES(fa:d_)(ρ:Ad)(d:D)(M:Mh)(R:v_):Prop:=Dw (Ja M d) λ_=>wl fa ρ M λv M2=>Dw (Ja M2 d) λq=>kK!<big/\R .non y2_
def c2h{fo:WE}{fa:d_}{q:WS}{R:q!}(h:fo ρ M λd M1=>ES fa ρ d M1 λ_ M2=>q ρ M2 R):Ah (Bk (Jz fo eh_)) q ρ M R:=h
def a8e{xs:b_}{f:d_}{R:v_}(hp:p7!)(hf:f ρ=some v)(hl:i_<big)(k:R .non AH!):ES f ρ x! M R:=by unfold ES;rw[sC hp];refine kL ?_;rw[cM hf,sC hp];exact kL ⟨hl,k⟩
def c2e{kvs:g!}{ep:Nat}{fo:WE}{fa:d_}{K:v_}(ho:Pu fo ρ M x!)(B:pM!)(hp:bO_)(hk:ch_)(hl:dt_)
  (ah:∀q v,M q=none->kget kvs y=some v->K v fJ!)(new:∀q,M q=none->kget kvs y=none->K bj_ AH_):Hw fo eh_ gg! ρ M K:=by
 unfold Hw;refine ho _ ?_;rw[cY hp];refine kL ?_;rw[cM B];refine⟨W!,hl!⟩;have pq:p≠q:=aS AI! hq;show Dw (Ek fJ! x!) _;rw[cY ((mup_ne pq).trans hp)];refine kL ?_;rw[hk];refine kL ⟨hl,?_⟩;show(match kget kvs y with|some v=>K v fJ!|none=>K bj_ AH_);cases e:kget kvs y with
 |some v=>exact ah q v hq e
 |none=>exact new q hq e
def b5w{o:Op}{R:v_}(hA:bE_)(hS:fJ_)(hR:∀M' gw g7,Cm t M' a ta wa .non (S++[o]) gw g7->R .non M'):Ll t la! M R:=by
 obtain⟨ep,ht⟩:=hA.tk;refine m_;show Ah sL! mu! hI_ M _;refine c2h ?_;have i0:f2 Ai s_ C_ hI_=some bD_:=vP o;have hkl:p2!<64:=JD hA.len hS;have hlS:(la_).length<64:=JD (wW S o.h) hS;have at_:a≠ta:=λz=>by have:=hA.ob;rw[z,ht]at this;cases this
 have aw:a≠wa:=λz=>by have:=hA.ob;rw[z,hA.wt]at this;cases this
 have tw:ta≠wa:=λz=>by rw[z,hA.wt]at ht;cases ht
 have cA:∀h∈kl,ca h≠a:=λh hh z=>by have:=hA.cl h hh;rw[z,hA.ob]at this;cases this
 have cT:∀h∈kl,ca h≠ta:=λh hh z=>by have:=hA.cl h hh;rw[z,ht]at this;cases this
 refine c2e (k:=p7_) k9! i0 ht rfl cL_ (λq v hq e=>?_) (λq hq e=>?_)
 .have aq:a≠q:=aS lc_ hq;have tq:ta≠q:=aS p9! hq;have wq:wa≠q:=aS p8_ hq;have cq:∀h∈kl,ca h≠q:=λh hh=>aS AJ_ hq;rw[gY]at e;have c:o.h∈kl:=by
   by_cases c:o.h∈kl
   .exact c
   .rw[GL c]at e;cases e
  rw[GU c]at e;cases e;refine a8e (p:=ca o.h) (v:=o.v) ((mup_ne (cq _ c)).trans (hA.cl _ c)) rfl cL_ ?_;generalize e2:Ay fJ! (ca o.h) AL!=M2;have m2:∀b,b≠q->b≠ca o.h->M2 b=M b:=λb B Y=>by rw[<-e2,cB_,ca!]
  have m2c:M2 (ca o.h)=some AL!:=by rw[<-e2];exact mup_same
  show AL_;refine tV ?_;rw[p5_];refine jM (fs:=hF ta wa out) rfl ((m2 a aq (GN (cA _ c))).trans hA.ob) qa! hP5 ?_;refine hR _ kl ca ⟨mup_same,⟨ep,?_⟩,?_,qa_,hA.nk,λh=>?_,hA.cw,hA.ci,?_⟩
  .rw[AM_,m2 ta tq (GN (cT _ c))];exact ht
  .rw[AN!,m2 wa wq (GN (hA.cw _ c))];exact hA.wt
  .rw[mup_ne (cA h hh),cR,fG];by_cases z:o.h=h
   .rw[GU z,<-z,m2c,HM];rfl
   .rw[GL z,HP,m2 _ (cq h hh) λy=>z (hA.ci _ hh _ c y).symm];exact hA.cl h hh
  .rw[cR,fG];by_cases z:o.h=h
   .rw[GU z];subst z;simp[c]
   .rw[GL z,HP];exact hA.mem h
  .rw[GW];have:=hA.len;omega
 .have aq:a≠q:=aS lc_ hq;have tq:ta≠q:=aS p9! hq;have wq:wa≠q:=aS p8_ hq;have cq:∀h∈kl,ca h≠q:=λh hh=>aS AJ_ hq;rw[gY]at e;have c:o.h∉kl:=by
   by_cases c:o.h∈kl
   .rw[GU c]at e;cases e
   .exact c
  have pj:Aq fH! bD_ bj_=fH!++AN_:=iG (λz=>by
   rw[II]at z;obtain⟨x,L,ex⟩:=HB.mp z;exact c (by rw[<-D.int.inj ex];exact L))
  rw[pj];refine a8e (p:=q) (v:=o.v) (xs:=[]) ((mup_ne (GN tq)).trans mup_same) rfl c! ?_;generalize e2:Ay (Ay fJ! ta AO!) q (.lst ([]++[o.v]))=M2;have m2:∀b,b≠q->b≠ta->M2 b=M b:=λb B Y=>by rw[<-e2,ca!,cB_,ca!]
  have m2q:M2 q=some (.lst [o.v]):=by rw[<-e2];exact mup_same
  have m2t:M2 ta=some AO!:=by rw[<-e2,mup_ne tq];exact mup_same
  show AL_;refine tV ?_;rw[p5_];refine jM (fs:=hF ta wa out) rfl ((m2 a aq at_).trans hA.ob) qa! hP5 ?_;have nc:∀h∈kl,h≠o.h:=λh hh z=>c (z▸hh);have zp:hs S o.h=[]:=hA.nol c;refine hR _ (kl++[o.h]) (λh=>if h=o.h then q else ca h) ⟨mup_same,⟨ep+1,?_⟩,?_,qa_,?_,λh=>?_,qa_,λh hh h' oz ee=>?_,?_⟩
  .rw[AM_,m2t,HM];congr 3
   .apply IQ;intro h hh;show _=(D.int h,D.fn le!);rw[GL (nc h hh)]
   .show _=[(D.int o.h,D.fn (if o.h=o.h then q else ca o.h))];rw[l!]
  .rw[AN!,m2 wa wq (GN tw)];exact hA.wt
  .show Ay M2 a _ le!=_;by_cases z:h=o.h
   .rw[GU z,mup_ne (GN aq),m2q,z,cR,fG,l!,zp];rfl
   .have oz:h∈kl:=(GT.mp hh).resolve_right λy=>z qd!;rw[GL z,mup_ne (cA h oz),m2 _ (cq h oz) (cT h oz),cR,fG,GL (GN z),HP];exact hA.cl h oz
  .rw[HU];exact⟨hA.nk,Ab!,λx L y hy=>by rw[GY.mp hy];exact nc x L⟩
  .rw[cR,fG,GT,GY];by_cases z:o.h=h
   .rw[GU z];simp[z]
   .rw[GL z,HP,<-hA.mem h];simp[GN z]
  .show le!≠wa;by_cases z:h=o.h
   .rw[GU z];exact GN wq
   .rw[GL z];exact hA.cw h ((GT.mp hh).resolve_right λy=>z qd!)
  .have g:∀x,x∈kl++[o.h]->x≠o.h->x∈kl:=λx L z=>(GT.mp L).resolve_right λy=>z qd!;have qu:le!=(if h'=o.h then q else ca h'):=ee;by_cases z:h=o.h
   .by_cases z':h'=o.h
    .rw[z,z']
    .rw[GU z,GL z']at qu;exact absurd qu.symm (cq h' (g h' oz z'))
   .by_cases z':h'=o.h
    .rw[GL z,GU z']at qu;exact absurd qu (cq h (g h hh z))
    .rw[GL z,GL z']at qu;exact hA.ci h (g h hh z) h' (g h' oz z') qu
  .rw[GW,GW];have:=hA.len;simp;omega
def a9g{f:WE}{nl:Nat}{ix:j!}{bnd:ad_}{ft:WT}{fe:WE}(h:Pu f ρ M x!)(hp:M p=some bU_):Pu (Ca nl ix (Cp f) bnd ft fe) ρ M bU_:=λK hK=>by
 unfold Ca Cp;refine h _ ?_;show(match M p with|some (.lst xs)=>_|_=>False);rw[hp];exact⟨IP _,hp,hK⟩
def b4a{ft:WT}{q q2:WS}{R:q!}(h:k6!)(k:hd!):Ah (Fo ft q) q2 ρ M R:=by unfold Ah Fo;refine e6!;unfold Cg;refine h _ ?_;rw[av_];exact k
def qI(hA:bE_):Vt (Ee t) [az!] M G_:=λK hK=>by
 refine m_;show Ah (An 1 aK_) (Ah (An 2 (Ca 1 [0] (Cp eL_) R_ _ _)) (Ah (Fo sN_ _) b0!)) AY! M _;refine jL er! ?_;refine jL (a9g (gM cn! hA.ob hF3) hA.wt) ?_;refine b4a (b1q rfl) ?_;exact eZ er! hK
def a9d{o:Op}{R:v_}(hA:bE_)(hS:fJ_)(hn:o.n=fI!+1)(hR:∀M' gw g7,Cm t M' a ta wa .non (S++[o]) gw g7->R aS! M'):Jo t la! M R:=by
 refine m_;show Ah sP_ _ lf_ M _;have L:Tx sO! lf_ M true:=by
  have e:(o.n==fI!+1)=true:=by rw[hn];exact JW _
  have:=vL (kX (ρ:=lf_) AY_ (bL (f:=Aa 1) rfl) (b0g (o:=o) hA));rw[e]at this;exact this
 unfold Ah;refine a0m L ?_;refine gG (tJ rfl rfl (b5w hA hS λM' gw g7 iw=>?_));show Bf sO_ lf_ M' _;exact eZ (gV AC! (vK (bL (f:=Aa 0) (d:=az!) rfl) (qI iw)) (d:=.int 1) rfl) A0!
def Hist.next{os:o!}{o:Op}(h:Hist (S++o::os)):o.n=fI!+1:=by
 have:=(h.ch o.h).num (la_).length o;rw[cR]at this;have e:hs hp! o.h=o::hs os o.h:=by unfold hs;rw[IT c_]
 rw[e]at this;exact this (by rw[IK y_];simp)
def CH(t:Aw):WS:=Sv 2 sS_
def b1g:∀(os:o!) (x1:D) (k:Int) (y:ac_) (M:Mh) (out:D) (S:o!) (kl:D!) (ca:Int->Addr) (R:q!),Cm t M a ta wa out S kl ca->Hist (S++os)->(S++os).length<64->
  (∀M' gw g7 uy y',Cm t M' a ta wa uy (S++os) gw g7->(uy=.non\/uy=out)->R (.nx [u_,G!,some (.int (k+(aP_:Nat))),y']) M')->
  Fx V_ I_ (CH t) aI! [u_,G!,some lg!,y] M R
 |[],x1,k,y,M,out,S,kl,ca,R,hA,_,_,hR=>⟨trivial,by
  have:=hR M kl ca out y (by rw[HP];exact hA) gy!;simpa using this⟩
 |o::os,x1,k,y,M,out,S,kl,ca,R,hA,hH,hl,hR=>by
  refine aO!;show CH t A0_ M _;show Ao 2 (Jo t) mA! A0_ M _;have lu:S.length<64:=by rw[GW]at hl;omega
  refine tJ rfl rfl (a9d hA lu hH.next λM' gw g7 iw=>?_);have e:S++o::os=S++[o]++os:=by simp
  refine b1g os x1 P_ eg! M' .non (S++[o]) gw g7 R iw (by rw[<-e];exact hH) A1! λM2 kl2 ca2 out2 y2 Y hz=>?_;have h3:=hR M2 kl2 ca2 out2 y2 (by rw[e];exact Y) (.inl (hz.elim id id));have ek:k+((hp!).length:Nat)=k+1+(aP_:Nat):=by rw[GS];omega
  rw[ek]at h3;exact h3
end
section
variable{t:Aw}{M:Mh}{ρ:Ad}{a ta wa:xh!}{out:D}{ca:Int->Addr}
def Cm.mupN{c:Oc}(hA:hM!)(B:p≠a)(Y:p≠ta)(h3:p≠wa):Cm t pd! a ta wa out [] [] ca:=by obtain⟨ep,ht⟩:=hA.tk;exact{hA with ob:=(mup_ne (GN B)).trans hA.ob,tk:=⟨ep,(mup_ne (GN Y)).trans ht⟩,wt:=(mup_ne (GN h3)).trans hA.wt,cl:=λh hh=>p6!}
def Cm.offN(hA:hM!)(hp:M p=none):p≠a/\p≠ta/\p≠wa:=by obtain⟨ep,ht⟩:=hA.tk;exact⟨GN (aS lc_ hp),GN (aS p9! hp),GN (aS p8_ hp)⟩
def a8s{kvs:g!}{ep:Nat}{fo fa fb:d_}{K:v_}(h0:fB_)(B:pM!)(Y:fb ρ=some z)(hp:bO_)(hk:ch_)(hl:dt_)(hn:y∉kvs.map b!)(hK:K z (Ay M p (.dct (kvs++[(y,z)]) ba_))):Hw ce! eh_ hj! ρ M K:=by unfold Hw;rw[cM h0,cY hp];refine kL ?_;rw[cM B,cM Y,cY hp,hk];refine kL (kL ⟨hl,?_⟩);show(match kget kvs y with|some v=>K v M|none=>K z (Ay M p (.dct (Aq kvs y z) ba_)));rw[wK hn,iG hn];exact hK
def b8w(o:Op):Ai o.nm G_=some bD_:=by simp[Op.nm,Ai,Db,Eg]
def c7d(o:Op):Ai o.v bt_=some ej_:=by simp[Op.v,Ai,Db,Eg]
def CI(t:Aw):WS:=Ah eG_
 (Ah sA!
 sC!)
def b2m:∀(os dn:o!) (x1:D) (y3 y4 y5:ac_) (ep:Nat) (M:Mh) (R:q!),Cm t M a ta wa out [] [] ca->(∀o∈os,Zu o)->((dn++os).map Op.nm).Nodup->(dn++os).length<64->M p=some (.dct qe! ep)->p≠a->p≠ta->p≠wa->
  (∀M' bd ky kz on,M' p=some (.dct ((dn++os).map λo=>li!) bd)->fo_->R (.nx [u_,G!,I!,ky,kz,on]) M')->
  Fx V_ I_ (CI t) aI! [u_,G!,I!,y3,y4,y5] M R
 |[],dn,x1,y3,y4,y5,ep,M,R,_,_,_,_,hp,_,_,_,hR=>⟨trivial,hR M ep y3 y4 y5 (by rw[HP];exact hp) λb _=>rfl⟩
 |o::os,dn,x1,y3,y4,y5,ep,M,R,hA,hf,nd,hl,hp,uz,u6,qr,hR=>by
  refine aO!;have ho:=hf o GO;have e:dn++o::os=dn++[o]++os:=by simp
  show CI t qe_ M _;show Ah eG_ _ qe_ M _;have es:Ep F_ Au cY_ qe_=some o.nm:=b6p o;refine jL (bL es) ?_;show Ah od_ _ li_ M _;have B:Tx sx_ li_ M false:=by
   have:=vL (kX (ρ:=li_) AY_ (bL (f:=Aa 3) rfl) (a0k (o:=o) hA));rw[GZ (by have:=ho.n1;show¬(o.n<=c2!);omega)]at this;exact this
  have Y:Tx sz_ li_ M false:=by
   refine vL (gV (bL (d:=he_) (b8w o)) (gM cn! hA.ob hF1) ?_);have:(o.h==3)=false:=by obtain z|z|z:=ho.hh<;>rw[z]<;>rfl
   show Bc bD_ aB_=_;rw[a3q,this]
  unfold Ah;refine uT B (uT Y ?_);unfold An;have wz:o.nm∉(qe!).map b!:=λz=>by
   rw[II]at z;rw[HM,HU]at nd;exact nd.2.2 o.nm z o.nm c_ rfl
  refine a8s (p:=p) (y:=o.nm) (z:=o.v) (k:=A3!) rfl rfl rfl hp rfl (by rw[GX];rw[GW]at hl;unfold big;omega) wz ?_;show Ax sB! Gr Ch lj! A4! _;have h3:fT sC_ lj!=some false:=by
   obtain⟨n1,n2⟩:=c3d ho.dg;have:f2 Eb B! F_ lj!=some as_:=c3k n1 a!;show"!I"
  refine uT (b1q h3) ?_;show Fx V_ I_ (CI t) aI! lj! A4! R;refine b2m os (dn++[o]) x1 eg! (some o.nm) eg! ba_ _ R (hA.mupN uz u6 qr) (λx L=>hf x bP!) (by rw[<-e];exact nd) A1! (by rw[mup_same,HM];rfl) uz u6 qr λM' bd z3 z4 z5 g1 g2=>?_;exact hR M' bd z3 z4 z5 (by rw[e];exact g1) λb O=>(g2 b O).trans fp_
def a9u{ms:o!}{R:v_}(hA:hM!)(hH:dy!)(hl:fL!)
  (hR:∀M' p ep,Cm t M' a ta wa out [] [] ca->M' p=some (.dct fK_ ep)->p≠a->p≠ta->p≠wa->R x! M'):Dg t hM_ M R:=by
 refine m_;show Ah gc_ (Ah (Dk sw_ V_ (CI t)) eH_) [u_,es!,none,none,none,none] M _;intro p hp;obtain⟨q1,q2,q3⟩:=hA.offN hp;have g8:=hA.mupN (c:=.dct [] 0) q1 q2 q3;show Ah (Dk _ _ _) _ [u_,es!,I!,none,none,none] du! _;unfold Ah Dk Cp;have ua:Iv du! (.fn wa) ll!=some ll!:=by
  simp only[Iv,g8.wt];rw[GU (by rw[GX];unfold big;simp;omega)];rfl
 refine gV (gM cn! g8.ob hF3) (bL (d:=.lst dy_) rfl) ua _ ?_;refine b2m (p:=p) ms [] _ none none none 0 _ _ g8 hH.op (by simpa using hH.names) qi! mup_same q1 q2 q3 λM' bd y3 y4 y5 g1 g2=>?_;obtain⟨et,ht⟩:=g8.tk;have RQ:Cm t M' a ta wa out [] [] ca:={g8 with ob:=(g2 a (GN q1)).trans g8.ob,tk:=⟨et,(g2 ta (GN q2)).trans ht⟩,wt:=(g2 wa (GN q3)).trans g8.wt,cl:=λh hh=>p6!};exact eZ fM! (hR M' p bd RQ g1 q1 q2 q3)
def CM(t:Aw):WS:=Ah sE_
 (Ah sI!
 sH_)
def d0n{kvs:g!}{ep:Nat}{fo fi f:d_}{R:q!}(h0:fB_)(B:fi ρ=some y)(Y:f ρ=some v)(hp:bO_)(hk:ch_)(hl:dt_)(k':R am_ hz_):By ce! (wl fi) (wl f) ρ M R:=by unfold By;rw[cM Y,cM h0,cM B,gD hp hk hl];exact k'
def b3l{e0:Nat}(pq:q≠p):∀(qs:o!) (jy:g!) (ep:Nat) (y3 y4:ac_) (M:Mh) (R:q!),Cm t M a ta wa out [] [] ca->M p=some (.dct kvs e0)->(∀o∈qs,kget kvs o.nm=some o.v/\Zu o)->M q=some (.dct jy ep)->q≠a->q≠ta->q≠wa->
  qs.Pairwise (λx y=>x.h=y.h->x.tm<y.tm)->(∀o∈qs,∀v,kget jy bD_=some v->∃m,v=.int m/\m<o.tm)->jy.length+qs.length<1000->
  (∀M' ky kz,Cm t M' a ta wa out [] [] ca->R (.nx [u_,I!,ao_,ky,kz]) M')->
  Fx V_ I_ (CM t) ql! [u_,I!,ao_,y3,y4] M R
 |[],jy,ep,y3,y4,M,R,hA,_,_,_,_,_,_,_,_,_,hR=>⟨trivial,hR M y3 y4 hA⟩
 |o::qs,jy,ep,y3,y4,M,R,hA,hp,hk,hq,n1,n2,n3,pw,ht,hl,hR=>by
  refine aO!;obtain⟨hko,ho⟩:=hk o GO;rw[JE]at pw;simp only[GS]at hl;show CM t rx! M _;show Ah (An 4 _) _ rx! M _;have i1:Bt M x! o.nm=some o.v:=(kC (k:=A3!) hp rfl).trans hko;have i2:Bt M o.v bt_=some ej_:=c7d o;refine jL (gV (gV fM! (bL (d:=o.nm) rfl) i1) (bL (d:=.int 2) rfl) i2) ?_;show Ah od_ _ hO! M _;have ix:f2 Ai F_ C_ hO!=some bD_:=b8w o;obtain⟨m,em,hm⟩:∃m:Int,(kget jy (.int o.h)).getD (.int 0)=.int m/\m<o.tm:=by
   cases e:kget jy bD_ with
   |none=>exact⟨0,rfl,by have:=ho.t1;omega⟩
   |some v=>
    obtain⟨m,e1,e2⟩:=ht o GO v e;exact⟨m,e1,e2⟩
  have hc:Tx sH! hO! M false:=by
   refine vL (gV (bL (d:=kj!) rfl) (vJ qm_ (bL ix) (kX hP! (bL ix) (a2e hA rfl)) hq (k:=p7_) rfl em) ?_);show some (D.bl (decide (o.tm<=m)))=_;rw[GZ a!]
  refine oO hc ?_;refine d0n (p:=q) (y:=he_) (v:=kj!) (k:=p7_) rfl ix rfl hq rfl dm_ ?_;show Fx V_ I_ (CM t) ql! hO! (Ay M q (.dct (Aq jy bD_ ej_) (Ge jy bD_ ep))) R;refine b3l pq qs _ _ (some o.nm) (some ej_) _ R (hA.mupN n1 n2 n3) ((mup_ne (GN pq)).trans hp) qp_ mup_same n1 n2 n3 pw.2 (λx L v hv=>?_) (by have:=kput_len jy bD_ ej_;omega) λM' z3 z4 h=>hR M' z3 z4 h;by_cases c:o.h=x.h
  .rw[<-c,dG]at hv;cases hv;exact⟨_,rfl,pw.1 x L c⟩
  .rw[dM λz=>c (D.int.inj z)]at hv;exact ht x bP! v hv
def b2y{f:Op->D}{g:Op->D}:∀{l:o!},(hJ_).Nodup->∀{o:Op},o∈l->kget (l.map λo=>(f o,g o)) (f o)=some (g o)
 |[],_,o,h=>by cases h
 |x::l,nd,o,h=>by
  rw[GM,HA]at nd;rw[GM];unfold kget;obtain rfl|h:=GJ.mp h
  .rw[l!]
  .rw[GL λz=>nd.1 (by rw[z];exact GP h),b2y nd.2 h]
def Pd(o:Op):Int×Int:=(o.h,o.n)
def Hist.nkeys{ms:o!}(h:dy!):(ms.map Pd).Nodup:=by have:=h.names;rw[NP,QJ]at this ⊢;refine this.imp λ{x y} hxy e=>hxy ?_;simp only[Pd,JS]at e;show D.tup [.int x.h,.int x.n]=D.tup [.int y.h,.int y.n];rw[e.1,e.2]
def Hist.rise{ms:o!}(h:dy!){x y:Op}(L:x∈ms)(hy:y∈ms)(e:x.h=y.h)(hn:x.n<y.n):x.tm<y.tm:=by have l8:x∈hs ms y.h:=rJ.mpr ⟨L,e⟩;have xq:y∈hs ms y.h:=rJ.mpr ⟨hy,rfl⟩;obtain⟨i,hi,ei⟩:=PH.mp l8;obtain⟨j,hj,ej⟩:=PH.mp xq;have B:=(lq_).num i x (by rw[HE hi,ei]);have Y:=(lq_).num j y (by rw[HE hj,ej]);have:=NX.mp (lq_).tim i j hi hj a!;rw[ei,ej]at this;exact this
def b9j{x y:Op}(h:Kq (Pd x) (Pd y)=true)(e:x.h=y.h):x.n<y.n:=by simp only[Kq,BF,Pd,e,IL,HQ]at h;exact h
def xH{e0:Nat}{ms:o!}{R:v_}(hA:hM!)(hH:dy!)(hl:fL!)(hp:M p=some (.dct fK_ e0))(uz:p≠a)(u6:p≠ta)(qr:p≠wa)
  (hR:qr_):Hb t [az!,.fn p] M R:=by
 refine m_;show Ah gc_ (Dk sE! V_ (CM t)) [u_,I!,none,none,none] M _;intro q hq;obtain⟨q1,q2,q3⟩:=hA.offN hq;have qp:q≠p:=GN (aS AI! hq);have g8:=hA.mupN (c:=.dct [] 0) q1 q2 q3;have WC:Ay M q E_ p=some (.dct fK_ e0):=(mup_ne (GN qp)).trans hp;show Dk _ _ _ [u_,I!,ao_,none,none] ls! _;unfold Dk Cp;have u7:(hQ_).Perm ms:=cK ms;have hsort:Qh ls! [.fn p]=some (.lst ((hQ_).map Op.nm)):=by
  show((Ek ls! x!).bind λq=>(Wg kX!).map D.lst)=_;rw[cY WC];show(Wg ((fK_).map b!)).map D.lst=_;have e1:(fK_).map b!=ms.map Op.nm:=by rw[II];rfl
  have e2:(qt_).map Nf=ms.map Pd:=by rw[II];rfl
  rw[e1];unfold Wg;rw[GU ⟨JR.mpr λd hd=>by obtain⟨o,_,rfl⟩:=HB.mp hd;rfl,by rw[e2];exact hH.nkeys,uY_⟩];show some (D.lst (Jb Nf qt_))=_;rw[uU (f:=Op.nm) (k:=Pd) (k':=Nf) λo=>rfl]
 refine yZ fM! hsort _ ?_;refine b3l qp hQ_ [] 0 none none _ _ g8 WC (λo ho=>⟨b2y hH.names qu_,hH.op o qu_⟩) mup_same q1 q2 q3 ?_ (λo _ v hv=>by cases hv) (by rw[u7.length_eq];simp;omega) λM' y3 y4 h=>hR M' h;have bu:On Pd hQ_:=iZ hH.nkeys;have:=List.Pairwise.and_mem.mp bu;exact this.imp λ{x y} h e=>hH.rise (u7.mem_iff.mp h.1) (u7.mem_iff.mp h.2.1) e (b9j (x:=x) (y:=y) h.2.2 e)
def xJ:∀{ys:b_},(∀y∈ys,y=D.bl true)->Lp ys=some qv!
 |[],_=>rfl
 |y::ys,h=>by
  rw[h y GO];show(Lp ys).map (true::·)=_;rw[xJ λx L=>h x bP!];rfl
def c1o{f:d_}(h:cE_):Ac f Ag ρ=some [d]:=by unfold Ac;rw[h];rfl
def c9r{f g k:d_}{a:D}(B:kT!)(Y:kT_)(h3:k ρ=some c):Ac f zE_ ρ=some cR_:=by unfold Ac;rw[B,Y,h3];rfl
def b3f{g:W_}{fs:am!}(h:g7!):f1 g fs ρ=g ds:=by unfold f1;rw[h];rfl
def c5f{ms:o!}(nd:t.nd)(hH:dy!)(hl:fL!):Co sJ! hR_=some false:=by
 obtain⟨ys,e,_,hr⟩:=jI (ρ:=ce_) (bnd:=Bn 0) (ft:=j3!) (fe:=f1 (Bv t) a0!) qw! dy_ (by
  intro d hd;obtain⟨o,ho,rfl⟩:=HB.mp hd;exact⟨[Y_],true,rfl,rfl,λ_=>⟨h8_,d0t nd (hH.op o ho),rfl⟩⟩)
 have hc:Ey 1 [] (Eu s_) R_ aJ_ sI_ hR_=some a6!:=by
  show(if(dy_).length<=big then Option.map D.lst (Fb _ _ _ ce_ dy_)else none)=_;rw[GU cL_,e];rfl
 have ha:f1 Md (Ac mD_ Ag) hR_=some D_:=by
  have B:Ac mD_ Ag hR_=some [.lst ys]:=by
   exact c1o hc
  rw[b3f B];show"#&"
 unfold Co fT;rw[ha];rfl
def sB{ms:o!}{R:v_}(nd:t.nd)(hA:hM!)(hH:dy!)(hl:fL!)(hR:qr_):Fm t hM_ M R:=by refine m_;show Ah (Ax (Di (Co _)) Gr Ch) sK! lu! M _;refine oO (b1q (c5f nd hH hl)) ?_;refine gG ?_;have hn:∀K:D->Mh->Prop,Dg t hM_ M K->Ao 2 (Dg t) b3_ lu! M K:=λK h=>tJ rfl rfl h;show Ao 2 (Dg t) b3_ lu! M _;refine hn _ (a9u hA hH hl λM1 p ep g8 hp uz u6 qr=>m_);exact xH g8 hH hl hp uz u6 qr λM' iw=>hR M' iw
def c1z{ms:o!}{R:v_}(nd:t.nd)(hA:Cm t M a ta wa .non [] [] ca)(hH:dy!)(hl:fL!)(hR:∀M' gw g7,Cm t M' a ta wa .non ms gw g7->R (.int lu_) M'):Sl t hM_ M R:=by refine m_;show Ah sR_ (Ah (An 2 aK_) (Ah (Dk mF! V_ (CH t)) eH_)) [u_,es!,none,none] M _;unfold Ah;refine gG (tJ rfl rfl (sB nd hA hH hl λM1 g8=>?_));refine bL (f:=fC G_) (d:=bm_) rfl _ ?_;show Dk mF! V_ (CH t) qy! M1 _;have hi:Eu s_ qy!=some dy_:=a3m rfl;unfold Dk Kt;rw[hi];refine b1g ms _ 0 none M1 .non [] [] ca _ g8 (by simpa using hH) qi! λM' gw g7 uy y' iw hz=>?_;have ho:uy=.non:=hz.elim id id;rw[ho]at iw;refine eZ (bL (d:=.int lu_) (by show some (D.int (0+lu_))=_;rw[Int.zero_add])) A0!
end
def c3c{α:Type}(p q:α->Bool)(l:J!)(h:∀x∈l,¬(p x=true/\q x=true)):(l.filter p++l.filter q).Perm qz_:=by
 have B:=List.filter_append_perm p qz_;rw[MQ,MQ]at B;have e1:(l.filter λx=>p x&&(p x||q x))=l.filter p:=LA λx _=>by cases p x<;>simp
 have e2:(l.filter λx=>(!p x)&&(p x||q x))=l.filter q:=LA λx L=>by
  have:=h x L;cases c:p x<;>cases d:q x<;>simp_all
 rw[e1,e2]at B;exact B
def zV{S:o!}:∀{kl:D!},kl.Nodup->(lw!).Perm (S.filter λo=>decide (o.h∈kl))
 |[],_=>by simp
 |k::kl,nd=>by
  rw[HA]at nd;rw[JL];refine((zV nd.2).append_left _).trans ?_;refine(c3c (λo:Op=>decide (o.h=k)) (λo=>decide (o.h∈kl)) S λx _ z=>?_).trans (List.Perm.of_eq (LA λx _=>by simp[GJ]));simp only[HQ]at z;exact nd.1 (z.1▸z.2)
section
variable{t:Aw}{M:Mh}{ρ:Ad}{a ta wa:xh!}{out:D}{S:List Op}{kl:List Int}{ca:Int->Addr}
def Cm.perm(hA:bE_):(lw!).Perm S:=by refine(zV hA.nk).trans (List.Perm.of_eq (JI.mpr λo ho=>?_));rw[HQ,hA.mem];intro z;have:o∈hs S o.h:=rJ.mpr ⟨ho,rfl⟩;rw[z]at this;cases this
def AD(t:Aw):WS:=We 1 mv_
def b3q{ck:cN!}(hA:bE_)(ik:ck M)(hS:fJ_):∀(ks:D!) (acc:o!) (y:ac_) (R:q!),(∀h∈ks,h∈kl)->cl!+64*kl!<100000->
  (∀y',R (.nx [u_,some (.lst ((acc++ks.flatMap (hs S)).map Op.v)),y']) M)->
  Fx bf! ck (AD t) qA_ [u_,hu!,y] M R
 |[],acc,y,R,_,_,hR=>⟨ik,by have:=hR y;simpa using this⟩
 |h::ks,acc,y,R,hk,hl,hR=>by
  refine⟨ik,?_⟩;obtain⟨ep,ht⟩:=hA.tk;have hh:=hk h GO;show AD t [u_,hu!,hI!] M _;show We 1 mv_ [u_,hu!,hI!] M _;unfold We;have i1:Bt M (.fn ta) (.int h)=some (.fn hH_):=(kC (k:=p3!) ht rfl).trans (by rw[gY,GU hh]);refine gV k9! k9_ i1 _ ?_;rw[sC (hA.cl h hh)];refine kL ?_;have hlS:(k8_).length<64:=JD (wW S h) hS;simp only[GS]at hl;refine⟨by simp only[GX];unfold big;omega,?_⟩;show Fx bf! ck (AD t) qA_ [u_,some (.lst (acc.map Op.v++(k8_).map Op.v)),hI!] M R;rw[<-HM];refine b3q hA ik hS ks (acc++hs S h) (some (.int h)) R qp_ v5! λy'=>?_;have:=hR y';rw[JL,<-IY]at this;exact this
def a4l(hA:bE_)(hH:Hist S)(hS:fJ_):Vt (Ew t) [az!] M (.lst lx!):=λK hK=>by
 obtain⟨ep,ht⟩:=hA.tk;refine m_;show Ah f6! (Ah qB_ mw_) AY! M _;show Ah qB_ mw_ qC_ M _;unfold Ah Dk Ss;refine gM cn! hA.ob hF2 _ ?_;rw[cY ht];refine kL ?_;have hkl:p2!<64:=JD hA.len hS;have ek:(fH!).map b!=kl.map D.int:=by rw[II];rfl
 show Fx bf! _ (AD t) ((fH!).map b!) qC_ M _;rw[ek];refine b3q hA ht hS kl [] none _ (λh hh=>hh) bd_ λy'=>?_;have hp:=hA.perm;have nd:((lw!).map Op.key).Nodup:=(hr!).nodup_iff.mpr hH.keys;have he:f1 Dh c0! [u_,some (.lst qD!),y']=some (.lst lx!):=by
  show Dh [.lst qD!]=_;rw[JF,lS nd qD_,sF hp nd]
 exact eZ (bL he) hK
structure OS(t:Aw)(M:Mh)(a o:xh!)(rl:bM!)(W:OW):Prop where
 hob:∃ta wa,M a=some lx_
 out:Cc t M o rl W 1500
def c3b{R:v_}(hA:qF!)(hH:Hist S)(hS:fJ_)(hr:Uq W0 qF_ W')
  (hR:∀M' o af,OS t M' a o af W'->(∀b,M b≠none->b≠a->M' b=M b)->R aw_ M'):En t [az!] M R:=by
 refine m_;show Ah sq_ (Bf gg_) [u_] M _;unfold Ah;refine a0m (vL (gV (gM cn! hA.ob hF4) qI! rfl)) ?_;refine tV ?_;show Ao 1 (Im t) mx! [u_] M _;have hp:(Ih S).Perm S:=cK S;have hc:∀K:D->Mh->Prop,Im t [.lst lx!] M K->Ao 1 (Im t) mx! [u_] M K:=λK h=>by
  show Ao 1 (Ew t) bw_ [u_] M _;exact vK hP! (a4l hA hH hS) _ b8_
 refine hc _ (b4m (W':=W') ((hr!).nodup_iff.mpr hH.keys) ((hr!).nodup_iff.mpr hH.names) qD_ (λo ho=>(hH.op o (hp.mem_iff.mp ho)).dg) (by rw[b6n hH.keys];exact hr) λo M1 af ho hO hw fr=>?_);have fa:=fr a lc_;refine jM (fs:=hF ta wa .non) rfl (fa.1.trans hA.ob) qa! hP5 ?_;have Y:Cc t (Ay M1 a lx_) o af W' 1500:=hO.keep λc hc=>mup_ne λz=>hc (by rw[z];exact fa.2);show Bf gg_ [u_] (Ay M1 a lx_) _;exact eZ (gM cn! mup_same hF4) (hR _ o af ⟨⟨ta,wa,mup_same⟩,Y⟩ λb O hn=>(mup_ne hn).trans (fr b O).1)
variable{o:xh!}{rl:Addr->Od}{W:OW}{x:D}
def c3a(h:eu!):Vt (En t) [az!] M aw_:=λK hK=>by
 obtain⟨ta,wa,hob⟩:=h.hob;refine m_;show Ah (Ax sq! _ Ch) (Bf gg_) [u_] M _;refine oO (vL (gV qL! qI! rfl)) ?_;exact eZ qL! hK
def OS.nob(h:eu!)(hm:∀{a1 a2 a3 a4 a5 a6:xh!},(Y!).lookup m=none):De t.B4 m M aw_:=by obtain⟨_,_,_,_,_,_,_,_,_,_,_,_,hA⟩:=h.out;exact hA.noOb hm
def c1t(h:eu!)(hk:fs_)(L:df!):Vt (Gf t) [az!,x] M aw_:=λK hK=>by
 refine m_;show Ah (An 2 iI_) sT! [u_,aM_,none] M _;refine jL (vK hP! (c3a h)) ?_;refine oO (c6r (vL (b:=true) (iA eu_ (h.nob oM1) fT! λK hK=>b0l h.out hk (by rw[HN L];exact hK)))) ?_;exact eZ eu_ hK
end
structure Tr(rows:g!) where
 T:Nat->D->List ev!
 f:D->Nat
 dec:∀x c,db_∈rows->f c<f x
 eq:∀d x,T d x=bD!::(dW!).flatMap (T bb!)
nonrec def pg(rows:g!):Nat->Nat->D->List ev!
 |0,_,_=>[]
 |n+1,d,x=>bD!::(dW!).flatMap (pg rows n bb!)
def wX{α β:Type}{l:J!}{f g:α->List β}(h:∀a∈l,f a=g a):l.flatMap f=l.flatMap g:=by rw[List.flatMap_def,List.flatMap_def,IQ h]
def b1z{rows:g!}{f:D->Nat}(hf:∀x c,db_∈rows->f c<f x)(h0:∀x,0<f x):∀n m d x,f x<=n->f x<=m->pg rows n d x=pg rows m d x
 |0,_,_,x,h,_=>absurd (h0 x) a!
 |n+1,0,_,x,_,h=>absurd (h0 x) a!
 |n+1,m+1,d,x,B,Y=>by
  show _::_=_::_;rw[wX λc hc=>b1z hf h0 n m bb! c (by have:=hf x c fe_;omega) (by have:=hf x c fe_;omega)]
def b9g{α:Type}(f:α->Nat):∀l:List α,∃hb,∀x∈l,f x<=hb
 |[]=>⟨0,λ_ h=>by cases h⟩
 |a::l=>by
  obtain⟨hb,h⟩:=b9g f l;refine⟨hb+f a,aT_⟩;obtain rfl|L:=GJ.mp L
  .omega
  .have:=h x L;omega
def d0d{rows:g!}(h:∃rk:D->Nat,∀i p,bA!∈rows->rk p<rk i):Nonempty (Tr rows):=by
 obtain⟨rk,hr⟩:=h;obtain⟨hb,hB⟩:=b9g (λq:D×D=>rk q.1) rows;have hf:∀x c,db_∈rows->(hb+1 - rk c)+1<hW_+1:=λx c hc=>by
  have B:=hr c x hc;have Y:rk c<=hb:=hB db_ hc;omega
 refine⟨⟨λd x=>pg rows (hW_+1) d x,λx=>hW_+1,hf,λd x=>?_⟩⟩;show _::_=_::_;rw[wX λc hc=>b1z hf (λ_=>Nat.succ_pos _) hW_ ((hb+1 - rk c)+1) bb! c (by have:=hf x c fe_;omega) y_]
def c9z{rows:g!}(h:db_∈rows)(w:Wn rows c y):Wn rows x y:=by
 induction w with
 |here=>exact .up h .here
 |up h _ ih=>exact .up h ih
section
variable{rows:List (D×D)}(t:Tr rows)
def Tr.wn(h:Wn rows i x):t.f x<=t.f i:=by
 induction h with
 |here=>exact HD _
 |up h _ ih=>have:=t.dec _ _ h;omega
def Tr.mem:∀{n:Nat} {x y:D} {d:Nat},t.f x<n->y∈(hX_).map z_->Wn rows x y
 |0,_,_,_,h,_=>absurd h (QU _)
 |n+1,x,y,d,h,hy=>by
  rw[t.eq,GM,GJ]at hy;obtain rfl|hy:=hy
  .exact .here
  .obtain⟨q,hq,rfl⟩:=HB.mp hy;obtain⟨c,hc,hq⟩:=QN.mp hq;have a7:=cE.mp hc;have:=t.dec _ _ a7;have w:=Tr.mem (n:=n) a! qN_;exact c9z a7 w
def c6e(nd:cJ!)(h:Wn rows a x)(Y:Wn rows b x):Wn rows a b\/Wn rows b a:=by
 induction h with
 |here=>exact .inr Y
 |up h w ih=>
  cases Y with
  |here=>exact .inl (.up h w)
  |up h3 w3=>rw[iH nd h3 h]at w3;exact ih w3
def Tr.nd(nd:cJ!):∀{n:Nat} {x:D} {d:Nat},t.f x<n->((hX_).map z_).Nodup
 |0,_,_,h=>absurd h (QU _)
 |n+1,x,d,h=>by
  rw[t.eq,GM,HA];show"!O"
  .intro z;obtain⟨q,hq,e⟩:=HB.mp z;obtain⟨c,hc,hq⟩:=QN.mp hq;have B:=t.dec _ _ fe_;have Y:=t.wn (t.mem (n:=n) a! qN_);have e:q.2=x:=e;rw[e]at Y;omega
  .rw[List.map_flatMap];refine List.pairwise_flatMap.mpr ⟨λc hc=>Tr.nd nd (n:=n) (by have:=t.dec _ _ fe_;omega),?_⟩;have hn:(dW!).Nodup:=nd.sublist a4c;refine List.Pairwise.imp_of_mem ?_ hn;intro a b ha O ne y hy z hz e;subst e;have WD:=cE.mp ha;have cg:=cE.mp O;have B:=t.dec _ _ WD;have Y:=t.dec _ _ cg;obtain w|w:=c6e nd (t.mem (n:=n) a! hy) (t.mem (n:=n) a! hz)
   .have:=t.wn ((uO nd cg (GN ne)).mp w);omega
   .have:=t.wn ((uO nd WD ne).mp w);omega
def a9w{α:Type}:∀{l m:J!},l.Nodup->(∀a∈l,a∈m)->O!<=m.length
 |[],_,_,_=>IP _
 |a::l,m,h,hs=>by
  rw[HA]at h;have ha:=hs a GO;have:=a9w (m:=m.erase a) h.2 λb O=>(List.mem_erase_of_ne λz:b=a=>h.1 (z▸O)).mpr (hs b (GI _ O));rw[List.length_erase_of_mem ha]at this;have:=List.length_pos_of_mem ha;rw[GS];omega
def Tr.len(nd:cJ!)(d:Nat)(x:D):(hX_).length<=pI!+1:=by
 have:=a9w (m:=x::rows.map b!) (t.nd nd (n:=t.f x+1) (x:=x) (d:=d) eO_) λy hy=>by
  have:=t.mem (n:=t.f x+1) eO_ hy;cases this with
  |here=>exact GO
  |up h _=>exact GI _ (GP (f:=b!) h)
 show"#6"
def Tr.child{d:Nat}(h:db_∈rows):(t.T bb! c).length<(hX_).length:=by obtain⟨u,v,e⟩:=QD (cE.mpr h);rw[t.eq d x,e,PR,JL];simp only[GS,GW];omega
end
def c5x:∀(l:j_) (b:Str),b++Txt.join a9! l=l.foldl cp! b
 |[],b=>Str.append_empty b
 |x::l,b=>by
  have h:∀(l:j_) (a:Array Nat),(⟨l.foldl or_ a⟩:Str)=l.foldl cp! ⟨a⟩:=by
   intro l
   induction l with
   |nil=>intro a;rfl
   |cons y l ih=>
    intro a;show(⟨l.foldl _ (a++#[]++y.cps)⟩:Str)=_;rw[Array.append_empty];exact ih _
  have Y:∀(l:j_) (b x:Str),b++l.foldl cp! x=l.foldl cp! (b++x):=by
   intro l
   induction l with
   |nil=>intro b x;rfl
   |cons y l ih=>intro b x;show b++l.foldl _ (x++y)=_;rw[ih,<-Str.append_assoc];rfl
  show b++(⟨l.foldl or_ x.cps⟩:Str)=_;rw[h,Y];rfl
def a6l(l:j_):(Txt.join a9! l).length=(l.map g7_).sum:=by
 have h:∀(l:j_) (b:Str),(l.foldl cp! b).length=b.length+(l.map g7_).sum:=by
  intro l
  induction l with
  |nil=>intro b;simp
  |cons y l ih=>intro b;rw[OY,ih,JU,GM,List.sum_cons];omega
 have:=h l mF_;rw[<-c5x,Str.empty_append]at this;rw[this];show 0+_=_;omega
def b2v{n:Nat}(h:n<=100):(Txt.mul ev_ (n:Int)).length<=100:=by
 revert h
 revert n
 decide+kernel
def uG{i:Int}(h:dL_<10 ^ 60):(Str.ofString gh_).length<=61:=by rw[ofString_length];exact int_text_length_le10 c! h
def Pj(W:OW):Prop:=∀x∈W.its,∀d∈W.num x,∃i:Int,d=.int i/\dL_<10 ^ 60
def c8x{p v:Int}(h:DG (.tup qQ_)):h1!<10 ^ 60:=by
 generalize e:D.tup qQ_=d at h;cases h with
 |move _ _ hc=>
  cases e;obtain hc|⟨_,_,hc,_⟩:=hc<;>cases hc
 |set _ _ _ hn=>cases e;exact hn
 |_=>cases e
def b8t(h:Pj W)(hd:DG d)(hs:pI_):Pj W':=by
 cases hs with
 |put _ _ _=>
  intro x L e he;have cj:e∈vc_:=he;by_cases c:x=n
  .rw[GU c]at cj;simp only[GJ,HS,JO]at cj;exact⟨0,by obtain z|z|z|z:=cj<;>exact z,by decide⟩
  .rw[GL c]at cj;have l8:x∈W.its++[n]:=L;exact h x ((GT.mp l8).resolve_right λz=>c pR!) e cj
 |mvY _ _ _ _ _=>exact h
 |mvN _ _ _ _=>exact h
 |drY _ _ _=>exact h
 |drN _ _=>exact h
 |wrt _ _ _ _=>split;exact h;exact h
 |cut _ _ _ _=>split;exact h;exact h
 |@set a p v _ _ _=>
  split
  .intro x L e he;have cj:e∈(if x=a then(oD!).set p.toNat ed_ else W.num x):=he;by_cases c:x=a
   .rw[GU c]at cj;obtain z|z:=List.mem_or_eq_of_mem_set cj
    .exact h a (c▸L) e z
    .exact⟨v,z,c8x hd⟩
   .rw[GL c]at cj;exact h x L e cj
  .exact h
def a5z{os:o!}(hr:Uq W os W'):kk_->Pj W->Pj W':=by
 induction hr with
 |nil=>exact λ_=>id
 |cons hs _ ih=>exact λhd h=>ih (λo ho=>hd o (GI _ ho)) (b8t h (hd _ GO) hs)
abbrev sI(i:Int):Str:=Str.ofString gh_
def Um(i:Nat)(v:Int):Str:=Str.ofString " ["++sI (i:Nat)++Str.ofString "="++sI v++Str.ofString "]"
def Rg:List fU_->List Str
 |[]=>[]
 |(v,i)::l=>if v=0 then Rg l else Um i v::Rg l
def mR{i:Nat}(hi:i<4):(cM!).natAbs<10 ^ 60:=by rw[Int.natAbs_natCast];exact HH hi c!
def rK{v:Int}(h:h1_):v.natAbs.log2<1920:=by
 have Y:h1!<2 ^ 1920:=Nat.lt_trans h c!;by_cases h0:h1!=0
 .rw[h0];decide
 .exact(Nat.log2_lt h0).mpr Y
def b3c{i:Nat}{v:Int}(hi:i<4)(hv:h1_):(Um i v).length<=126:=by
 have B:(lB!).length<=61:=uG (mR hi);have Y:(sI v).length<=61:=uG hv;unfold Um;simp only[JU];have e1:(lC!).length=2:=by decide+kernel
 have e2:(lC_).length=1:=by decide+kernel
 have e3:(h2!).length=1:=by decide+kernel
 omega
def a1u:∀{l:List fU_},(∀q∈l,q.2<4/\q.1.natAbs<10 ^ 60)->((Rg l).map g7_).sum<=126*O!
 |[],_=>by simp[Rg]
 |(v,i)::l,h=>by
  have ih:=a1u λq hq=>h q (GI _ hq);have h0:=h (v,i) GO;have:(Um i v).length<=126:=b3c h0.1 h0.2;unfold Rg;split
  .rw[GS];omega
  .rw[GM,List.sum_cons,GS];omega
def yR:∀l:List Str,Mg dD!=some l
 |[]=>rfl
 |x::l=>by rw[GM,Mg,yR l];rfl
def Vh:D->Int
 |.int i=>i
 |_=>0
def Xh(W:OW)(x:D):Str:=match Lj kY! ki! with
 |some (.str s)=>s
 |_=>mF_
nonrec def nmL(W:OW)(x:D):List fU_:=((e2!).map Vh).zipIdx
nonrec def lnS(W:OW)(k:Nat)(x:D):Str:=Txt.mul ev_ (k:Nat)++Xh W x++Txt.join a9! lD!
section
variable{t:Aw}{M:Mh}{ρ:Ad}{a o:xh!}{rl:Addr->Od}{W:OW}{x:D}{pre:List D}{R:D->Mh->Prop}
def c5i(hw:dp!)(L:b9!)(hl:pR_):Lj kY! ki!=some (.str (Xh W x))/\(Xh W x).length<5000:=by
 obtain⟨cs,e1,e2⟩:=a7y dp_ λq hq=>hw.chr x L q (oR!).1
 have ls:(dp_).length<=(aE_).length:=LP _ _;have e3:Lj kY! ki!=some (.str (Txt.join a9! fh!)):=by
  rw[e1];show((Mg j2_).bind λys=>if(g8!).sum+M_*(a9!).length<=big then some qU! else none)=_;rw[qK];show bE!=_;rw[GU (by rw[tU,rW];unfold big;omega)]
 have e4:Xh W x=Txt.join a9! fh!:=by unfold Xh;rw[e3]
 rw[e4];exact⟨e3,by rw[a6l,tU];omega⟩
def b8v(nb:Pj W)(wi:Bx W)(L:b9!):(nmL W x).length=4/\∀q∈nmL W x,q.2<4/\q.1.natAbs<10 ^ 60:=by
 have hl:=wi.nl x L;unfold nmL;refine⟨by rw[ML,GX];exact hl,hl!⟩;obtain⟨v,i⟩:=q;have h:=QW hq;have B:i<4:=by have:=h.2.1;rw[GX,hl]at this;omega
 refine⟨B,?_⟩;have Y:v∈(e2!).map Vh:=by
  have:=h.2.2;rw[this];exact IV _
 obtain⟨d,hd,rfl⟩:=HB.mp Y;obtain⟨j,rfl,hj⟩:=nb x L d hd;exact hj
def c5q(nb:Pj W)(wi:Bx W)(L:b9!):(qW!).length<=504:=by obtain⟨B,Y⟩:=b8v nb wi L;have:=a1u Y;rw[a6l];omega
def lY{p q:Str}(h:qX!):Iv M (.str p) (.str q)=some (.str (p++q)):=by show bE!=_;rw[GU h]
nonrec def nB:D->Bool
 |.tup [_,.int v]=>v != 0
 |_=>false
nonrec def nY:D->D
 |.tup [.int i,.int v]=>.str (Um i.toNat v)
 |_=>.non
def b2n:∀(l:b_) (k:Nat),(∀d∈l,∃i:Int,d=.int i)->(((l.zipIdx k).map λq=>D.tup [kX_,q.1]).filter nB).map nY=(Rg ((l.map Vh).zipIdx k)).map D.str
 |[],_,_=>rfl
 |d::l,k,h=>by
  have ih:=b2n l P_ λe he=>h e (GI _ he);obtain⟨v,rfl⟩:=h _ GO;rw[NG,GM,GM,NG];show _=(Rg ((v,k)::_)).map D.str;unfold Rg;by_cases c:v=0
  .rw[IU qY_,GU c];exact ih
  .rw[IT qY_,GL c,GM,GM,ih];rfl
def c8m{i:Nat}{v:Int}(hi:i<4)(hv:h1_):Tu lC! lC_ h2! n! s_ h3!=some (.str (Um i v)):=by have hl:=b3c hi hv;show bE!=_;rw[GU ⟨rK (mR hi),rK hv,HR hl c!⟩];rfl
def c3q{k:Nat}(h:eu!)(hw:dp!)(nb:Pj W)(L:b9!)(hl:pR_)(hk:k<=90):Vt (Ls t) [aU!,.int ((k:Nat)+1),x] M (.str (lnS W k x)):=λK hK=>by
 have wi:=hw.inv;obtain⟨B,Y⟩:=b8v nb wi L;obtain⟨hj,hjl⟩:=c5i hw L hl;have hnl:=c5q nb wi L;have hm:=b2v (n:=k) a!;refine m_;show Ah (An 3 mH!)
  (s1_) vv! M _
 have hc:Pu mH! vv! M (.lst lF_):=λK hK=>by
  unfold Ca Sr;refine iA eu_ (h.nob d2g) fT! (λK hK=>xX h.out wi L hK) _ ?_;refine⟨by rw[GX,ML,wi.nl x L];decide,?_⟩;refine cW nB nY trivial _ _ bQ! ?_
  .obtain⟨⟨e,i⟩,hq,rfl⟩:=HB.mp hd;have hz:=QW hq;have hi:i<4:=by have:=hz.2.1;rw[wi.nl x L]at this;omega
   have he:e∈W.num x:=by have:=hz.2.2;rw[this];exact IV _
   obtain⟨v,rfl,hv⟩:=nb x L e he;refine⟨h3!,rfl,hd_,dq_⟩
   .have e1:fT s0_ h3!=some gJ_:=by
     have:f2 Eb s_ C_ h3!=some (.bl gJ_):=by
      show Eb ed_ G_=_;simp[Eb,Be,Hn,a3s,bne]
     show"!I"
    unfold Di;rw[e1];exact hK
   .rw[cM (c8m hi hv)];exact hK
  .rw[b2n _ 0 λd hd=>(nb x L d hd).imp λ_ h=>h.1];exact hK
 refine jL hc ?_;have ej:Rt (fC gm!) F_ q2!=some (.str qW!):=by
  show((Mg lF_).bind λys=>if(g8!).sum+M_*(a9!).length<=big then some qU! else none)=_;rw[yR];show bE!=_;have:=a1u Y;rw[GU (by rw[rW];unfold big;omega)]
 have em:f2 Sh f3_ s1! q2!=some (.str (Txt.mul ev_ (k:Nat))):=by
  show Sh (.str ev_) (.int ((k:Nat)+1 - 1))=_;have e:aY!+1 - 1=(k:Nat):=by omega
  rw[e];show bE!=_;rw[q4!]
 refine eZ (gV (gV (bL em) (iA eu_ (h.nob d2h) fT! λK hK=>a8p h.out wi L c! hj hK) (lY dm_)) (bL ej) (lY q6!)) hK
end
def Ma(q:Nat×D):D:=.tup [.int (q.1:Nat),q.2]
def Na(a:xh!)(x0:D)(o:xh!)(fd:List ev!)(p:xh!)(y5 y6:ac_):Ad:=[u_,K_,A!,some (.lst (fd.map Ma)),I!,y5,y6]
nonrec def pC:WT:=wT sU!
nonrec def pI:WS:=Bk sZ!
nonrec def pF(t:Aw):WS:=Dk sX! c4_ pI
nonrec def pB(t:Aw):WS:=Ah sV! (Ah sW_ (pF t))
section
variable{M:Mh}{ρ:Ad}{p:xh!}{q:WS}{R:Fl->Mh->Prop}{xs:List D}
def c2c{i:Nat}{fo:d_}(h0:fB_)(hp:M p=some (.lst eZ!))(k:q (ρ.set i (some y)) (Ay M p J_) R):Ah (An i (Su ce!)) q ρ M R:=by
 have cl:Ja M x!=some (p,xs++[y]):=by simp[Ja,hp]
 have gl:eZ![(eZ!).length - 1]?=some y:=by simp
 unfold Ah An Su;rw[cM h0,cl];refine kL ?_;show Dw (eZ![(eZ!).length - 1]?) _;rw[gl,List.dropLast_concat];exact k
def d0f{f:aH!}{ρ':Ad}(h:f ρ=some cl_)(k:q ρ' M R):Ah (Rv f) q ρ M R:=by unfold Ah Rv;rw[h];exact k
def c1n{fo fa:d_}(h0:fB_)(B:fa ρ=some v)(hp:p7!)(hl:i_<big)(k:R am_ AH!):Bk (Jz ce! eh_) ρ M R:=by
 have cl:Ja M x!=some (p,xs):=by simp[Ja,hp]
 unfold Bk Jz;rw[cM h0,cl];refine kL ?_;rw[cM B,cl];exact⟨hl,k⟩
def whT{ft:WT}{n:Nat}(h:Aw!)(k:q ρ M λr M2=>match r with|.nx bg=>Cg ft q n bg M2 R|.rt d=>R aW_ M2):Cg ft q bC_ ρ M R:=by show ft ρ M _;refine h _ ?_;rw[l!];exact k
def whF{ft:WT}{n:Nat}(h:k6!)(k:R am_ M):Cg ft q bC_ ρ M R:=by show ft ρ M _;refine h _ ?_;rw[av_];exact k
end
section
variable{t:Aw}{M M0:Mh}{ρ:Ad}{a o p:xh!}{rl:Addr->Od}{W:OW}{x:D}{R:D->Mh->Prop}
def OS.keepN{M':Mh}(h:eu!)(k:ra_):OS t M' a o rl W:=by obtain⟨ta,wa,e⟩:=h.hob;exact⟨⟨ta,wa,(k a kt_).trans e⟩,h.out.keep λc hc=>k c (h.out.live hc)⟩
def b1x{fd:List ev!}{d:Nat}:∀(cs:b_) (xs:b_) (y6:ac_) (M:Mh) (R:q!),M p=some J_->i_+cc!<90000->
  (∀M' y6,M' p=some (.lst (xs++cs.map λc=>Ma gU!))->fo_->R (.nx n1!) M')->Fx c4_ I_ pI cs n1! M R
 |[],xs,y6,M,R,hp,_,hR=>⟨trivial,hR M y6 v4_ λ_ _=>rfl⟩
 |c::cs,xs,y6,M,R,hp,hl,hR=>by
  refine aO!;rw[GS]at hl;have ev:Av sY! h6_=some (Ma gU!):=by
   have e1:f2 Al sX_ t_ h6_=some (.int rd_):=by
    have e2:f2 Ai B! C_ h6_=some re!:=by
     show Ai (Ma bD!) G_=_;simp[Ma,Ai,Db,Eg]
    unfold f2 at e2 ⊢;rw[e2];show some re_=_;simp
   exact c0i e1 rfl
  show pI h6_ M _;refine c1n (fo:=Aa 4) rfl ev hp (HH (show i_<90000 by omega) c!) ?_;refine b1x cs (xs++[Ma gU!]) (some c) _ R mup_same kN_ λM' y6 e k=>hR M' y6 (by rw[e,GM];simp) λb O=>(k b O).trans fp_
def c2n(T:cX!)(h:OS t M0 a o rl W)(db:M0 p=none)(wi:Bx W)(hB:aw!<2000):∀(n:Nat) (cm fd:List ev!) (y5 y6:ac_) (M:Mh) (R:q!),(∀b,b≠p->M b=M0 b)->M p=some (.lst (cm.map Ma))->(∀q∈cm,Ff W q.2)->
  (cm.reverse.flatMap λq=>T.T q.1 q.2).length=n->cm.length<=n->fd.length+n<=3000->(∀M' y5 y6,(∀b,b≠p->M' b=M0 b)->R (.nx (Na a x0 o (fd++cm.reverse.flatMap λq=>T.T q.1 q.2) p y5 y6)) M')->Cg pC (pB t) bC_ lP_ M R:=by
 intro n
 induction n with
 |zero=>
  intro cm fd y5 y6 M R hM hp hi hn bq hl hR;have:cm=[]:=MM.mp a!;subst this;have hc:Tx pC lP_ M false:=vL (gV (yZ fM! (d:=bm_) (by simp[Pe,Qi,hp])) er! rfl);refine whF hc ?_;have:=hR M y5 y6 hM;show"#6"
 |succ n ih=>
  intro cm fd y5 y6 M R hM hp hi hn bq hl hR;obtain rfl|⟨init,⟨d,x⟩,rfl⟩:=List.eq_nil_or_concat cm
  .simp at hn
  .rw[List.concat_eq_append]at *;have L:Ff W x:=hi bD! c_;have er:(init++en!).reverse.flatMap rk_=bD!::((bj!).flatMap ez!++init.reverse.flatMap λq=>T.T q.1 q.2):=by
    rw[List.reverse_append,OP,List.singleton_append,JL,T.eq d x];rfl
   have hOS:OS t M a o rl W:=h.keepN λb O=>hM b λz=>O jL!;have ak:Pe M [.fn p]=some (.int rl_):=by simp[Pe,Qi,hp]
   have hc:Tx pC lP_ M true:=by
    refine vL (gV (yZ fM! ak) er! ?_);show some (D.bl (decide ((0:Int)<rl_)))=_;rw[HN a!]
   refine whT hc ?_;refine c2c (fo:=Aa 4) (y:=Ma bD!) (xs:=init.map Ma) rfl (by rw[hp,HM];rfl) ?_;have ea:My 3 B! n1!=some (.nx rn!):=by
    show bE!=_;rw[GU cL_];simp[Na]
   refine d0f ea ?_;have WG:OS t (Ay M p (.lst (init.map Ma))) a o rl W:=h.keepN λb O=>(mup_ne λz:b=p=>O jL!).trans (hM b λz=>O jL!);unfold pF Dk Uw;have e1:f2 Ai B! t_ rn!=some x:=by
    show Ai (Ma bD!) aS!=_;simp[Ma,Ai,Db,Eg]
   refine iA eu_ (WG.nob d2j) (bL e1) (λK hK=>xG WG.out wi c! L hK) _ ?_;have il:(bj!).length<=aw!:=uL;rw[er,GS]at hn;have hcl':init.length<=n:=by rw[GW,IM]at bq;omega
   refine b1x (bj!).reverse (init.map Ma) y6 _ _ mup_same (by rw[GX,NM];omega) λM' qh e k=>?_;have em:init.map Ma++(bj!).reverse.map (λc=>Ma gU!)=(h9!).map Ma:=by rw[HM,II];rfl
   have ef:(h9!).reverse.flatMap rk_=(bj!).flatMap ez!++init.reverse.flatMap λq=>T.T q.1 q.2:=by
    rw[List.reverse_append,<-List.map_reverse,List.reverse_reverse,PR,List.flatMap_map]
   refine ih h9! (fd++en!) _ _ M' R (λb O=>((k b O).trans fp_).trans (hM b O)) (by rw[e,em]) dg! (by rw[ef];omega) ?_ kN_ λM2 y5 y6 k2=>?_
   .obtain z|z:=GT.mp hq
    .exact hi q h0!
    .obtain⟨c,hc,rfl⟩:=HB.mp z;exact .inl ((wi.ri c).mp (GP (f:=b!) (cE.mp (List.mem_reverse.mp hc))))
   .have ge:∀l:List ev!,O!<=(l.flatMap λq=>T.T q.1 q.2).length:=by
     intro l
     induction l with
     |nil=>exact HD _
     |cons q l ih=>rw[JL,GW,T.eq];simp only[GS];omega
    have:=ge (h9!).reverse;rw[ef,NM]at this;omega
   .have:=hR M2 y5 y6 k2;rw[er]at this;rw[ef];show"#6"
def b8i(T:cX!)(h:eu!)(wi:Bx W)(hB:aw!<2000)(L:df!)(hR:∀M',km_->R (.lst ro_) M'):Pn t [az!,x] M R:=by
 obtain⟨k,hk⟩:=pT wi L;refine m_;show Ah sT_ (Ah (Rv iJ_) (Ah mG_ rp!)) [u_,aM_,none,none,none,none,none] M _;refine jL (kX hP! fT! (c1t h hk L)) ?_;show Ah mG_ rp! [u_,aM_,A!,fv_,none,none,none] M _;unfold Ah An Hr Ab Af;rw[cM (d:=Ma (0,x)) rfl];refine⟨(by decide:1<=1000),co_⟩;refine⟨_,c2n T h hp wi hB (x0:=x) _ [(0,x)] [] none none _ _ (λb O=>mup_ne O) mup_same (λq hq=>by rw[ko!];exact L) rfl ?_ ?_ λM' y5 y6 k=>?_⟩
 .show 1<=_;simp only[OP,JL,List.flatMap_nil,HP,T.eq,GS];omega
 .have:=T.len wi.rnd 0 x;simp only[OP,JL,List.flatMap_nil,HP,KF];omega
 .have e:([]++[(0,x)].reverse.flatMap λq=>T.T q.1 q.2)=T.T 0 x:=by simp
  rw[e];show Bf ai_ (Na a x o (T.T 0 x) p y5 y6) M' _;exact eZ (bL (d:=.lst ro_) rfl) (hR M' λb O=>k b λz=>O (z▸hp))
end
structure BU(W V:OW):Prop where
 its:W.its=V.its
 txt:W.txt=V.txt
 num:W.num=V.num
 ch:∀x,chl W.rows x=chl V.rows x
def a4b:chl cA! x=(dW!).filter λc=>decide (c≠i):=by unfold chl wo;rw[MO,MQ,MQ];congr 1;apply LA;intro q _;exact Bool.and_comm _ _
def b6b(h:lU!)(w:Wn r1 i x):Wn r2 i x:=by
 induction w with
 |here=>exact .here
 |up B _ ih=>exact .up (cE.mp (by rw[<-h];exact cE.mpr B)) ih
def a3n{r1 r2:g!}(h:lU!)(n1:(r1.map b!).Nodup)(n2:(r2.map b!).Nodup)(B:Oz r1 i p s r9)(Y:Oz r2 i p s se)(x:D):chl r9 x=chl se x:=by
 by_cases c:p=x
 .subst c;rw[B.chl_same n1,Y.chl_same n2,a4b,a4b,h]
 .rw[B.chl_ne c,Y.chl_ne c,a4b,a4b,h]
def sX{P:Prop}(e:D.tup cH_=.tup (.str k'::r'))(h:k≠k'):P:=by
 injection e with e
 injection e with e _
 injection e with e
 exact absurd e h
def c2b{V:OW}(e:BU W V)(wi:Bx W)(vi:Bx V)(B:Ra W n d W1)(Y:Ra V n d V1):BU W1 V1:=by
 have ei:∀x,Ff W x↔Ff V x:=λx=>by unfold Ff;rw[e.its]
 have ew:∀i x,Wn W.rows i x↔Wn V.rows i x:=λi x=>⟨b6b e.ch,b6b λx=>(e.ch x).symm⟩;generalize ed:d=d' at Y;cases B with
 |put _ _ g1=>
  cases Y with
  |put _ _ g2=>
   cases ed;rename_i a b r1 _ _ r2 _ _;have ep:cF_=(if Ff V a then a else Bo):=by simp only[ei]
   rw[ep]at g1;exact⟨by simp only[Fh,e.its],by simp only[Fh,e.txt],by simp only[Fh,e.num],rs!⟩
  |_=>exact sX ed n_
 |mvY _ _ _ c1 g1=>
  cases Y with
  |mvY _ _ _ c2 g2=>cases ed;exact rt_
  |mvN _ _ _ c2=>cases ed;exact absurd rs_ c2
  |_=>exact sX ed n_
 |mvN _ _ _ c1=>
  cases Y with
  |mvY _ _ _ c2 g2=>cases ed;exact absurd rt! c1
  |mvN _ _ _ c2=>exact e
  |_=>exact sX ed n_
 |drY _ c1 g1=>
  cases Y with
  |drY _ c2 g2=>cases ed;exact rt_
  |drN _ c2=>cases ed;exact absurd rs_ c2
  |_=>exact sX ed n_
 |drN _ c1=>
  cases Y with
  |drY _ c2 g2=>cases ed;exact absurd rt! c1
  |drN _ c2=>exact e
  |_=>exact sX ed n_
 |wrt _ _ _ hn=>
  cases Y with
  |wrt _ _ _ ie=>
   cases ed;rw[hn]at ie;cases ie;rw[e.its];split
   .exact ru!
   .exact e
  |_=>exact sX ed n_
 |cut _ _ _ _=>
  cases Y with
  |cut _ _ _ _=>
   cases ed;rw[e.its];split
   .exact ru!
   .exact e
  |_=>exact sX ed n_
 |set _ _ _=>
  cases Y with
  |set _ _ _=>
   cases ed;rw[e.its];split
   .exact⟨e.its,e.txt,by simp only[Ry,e.num],e.ch⟩
   .exact e
  |_=>exact sX ed n_
def b0j(rows:g!)(i p s:D):∃r,Oz rows i p s r:=by
 by_cases h:s∈chl cA! p
 .obtain⟨u,v,e⟩:=QD (cE.mp h);exact⟨_,u++[cA_],v,by rw[e];simp,rfl,.inr ox!⟩
 .exact⟨_,[],wo rows i,rfl,rfl,.inl ⟨h,rfl⟩⟩
def c6j(W:OW){h m:Int}(hd:DG d)(hu:Gk d=none):∃W',Ra W kd! d W':=by
 cases hd with
 |put B Y=>
  obtain⟨r,g⟩:=b0j W.rows _ _ _;exact⟨_,.put B Y g⟩
 |@move a b c B Y h3=>
  by_cases q:a∈W.its/\Ff W b/\¬Wn W.rows a b
  .obtain⟨r,g⟩:=b0j W.rows a b c;exact⟨_,.mvY B Y h3 q g⟩
  .exact⟨_,.mvN B Y h3 q⟩
 |@drop a B=>
  by_cases q:a∈W.its/\Ff W Bo/\¬Wn W.rows a Bo
  .obtain⟨r,g⟩:=b0j W.rows a Bo .non;exact⟨_,.drY B q g⟩
  .exact⟨_,.drN B q⟩
 |write B Y _ _ h3=>exact⟨_,.wrt B Y h3 rfl⟩
 |cut B Y h3 h4=>
  obtain⟨x,y,z,e,h5⟩:=Y;cases e;exact⟨_,.cut B a! h3 h4⟩
 |set B Y h3 _=>exact⟨_,.set B Y h3⟩
 |undo B=>exact absurd hu rw!
 |redo B=>exact absurd hu rw!
def b6z:∀(os:o!) (W:OW) (pre:b_) (hb:Nat),Rh W pre->Qy W hb->(∀o∈os,DG o.d/\Gk o.d=none)->(∀o∈os,o.nm∉pre)->(ku!).Nodup->
  ∃W',Uq W os W'/\o9!/\Qy W' o8_/\∀V V',BU W V->Rh V pre->Uq V os V'->BU W' V'
 |[],W,pre,hb,hw,ax,_,_,_=>⟨W,.nil,⟨pre,hw⟩,ax.mono a!,λV V' e _ r=>by cases r;exact e⟩
 |o::os,W,pre,hb,hw,ax,hd,hp,nd=>by
  rw[GM,HA]at nd;have ho:=hd o GO;obtain⟨W1,s1⟩:=c6j W (h:=o.h) (m:=o.n) ho.1 ho.2;have hn:=hp o GO;have w1:=a0l s1 hw hn;obtain⟨W',r,g1,g2,g3⟩:=b6z os W1 _ a8! w1 (ax.stp s1) fp! (λx L z=>by
   obtain z|z:=GT.mp z
   .exact hp x bP! z
   .exact nd.1 (by rw[<-show x.nm=o.nm from GY.mp z];exact GP L)) nd.2
  refine⟨W',.cons s1 r,g1,g2.mono sJ_,λV V' e hv rv=>?_⟩;cases rv with
  |cons s2 r2=>exact g3 _ _ (c2b e hw.inv hv.inv s1 s2) (a0l s2 hv hn) r2
def Tr.mem2{rows:g!}(T:Tr rows):∀{n:Nat} {x:D} {d:Nat},T.f x<n->∀q∈(dW!).flatMap ez!,q.2∈rows.map b!/\d+1<=q.1/\q.1<=d+(ry_).length
 |0,_,_,h,_,_=>absurd h (QU _)
 |n+1,x,d,h,q,hq=>by
  obtain⟨c,hc,hq⟩:=QN.mp hq;obtain⟨u,v,e⟩:=QD hc;have a7:=cE.mp hc;have B:=T.dec _ _ a7;have hl:(ie!).length<=(ry_).length:=by
   rw[e,PR,JL];simp only[GW];omega
  have el:(ie!).length=((chl rows c).flatMap (T.T (d+1+1))).length+1:=by rw[lZ!];rfl
  rw[lZ!]at hq;obtain rfl|hq:=GJ.mp hq
  .exact⟨GP (f:=b!) a7,HD _,by dsimp only;omega⟩
  .obtain⟨g1,g2,g3⟩:=Tr.mem2 T (n:=n) (x:=c) (d:=d+1) a! q hq;exact⟨g1,r!,r!⟩
nonrec def lw(W:OW)(T:cX!)(d:Nat)(x:D):List Str:=(rA!).map λq=>lnS W (q.1 - 1) q.2
def d1f{W:OW}{T:cX!}(d:Nat)(x:D):lw W T d x=(bj!).flatMap λc=>lnS W d c::lw W T bb! c:=by unfold lw;rw[List.map_flatMap];exact wX λc _=>by rw[lZ!,GM];rfl
nonrec def lN:WS:=Ax m9_ us_ Ch
section
variable{t:Aw}{M M0:Mh}{ρ:Ad}{a o p w:xh!}{rl:Addr->LR}{W:OW}{x:D}{pre:List D}{R:D->Mh->Prop}
def xK{p q:Str}(h:qX!):Al (.str p) (.str q)=some (.str (p++q)):=by show bE!=_;rw[GU h]
def c5y{g:aW!}{fa fb:d_}{x:D}(B:o1_)(Y:pA_):f2 g fa fb ρ=g x y:=by unfold f2;rw[B,Y];rfl
def b6m{v:Int}(h:h1_):Rw [.int v]=some (.str (sI v)):=by show bE!=_;rw[GU (rK h)]
def b2w{w:xh!}{ns:b_}(hq:M q=some (.lst ns)):∀(l:List fU_) (s:Str) (y:ac_) (R:q!),(∀z∈l,ns[z.2]?=some (.int z.1)/\z.2<4/\z.1.natAbs<10 ^ 60)->ag_+126*O!<=50000->
  (∀y,R (.nx [z!,G!,f4!,if!,if_,some (.str ((Rg l).foldl cp! s)),ao_,y]) M)->Fx c9! I_ lN rB! [z!,G!,f4!,if!,if_,gT!,ao_,y] M R
 |[],s,y,R,_,_,hR=>⟨trivial,hR y⟩
 |(v,i)::l,s,y,R,h,hl,hR=>by
  obtain⟨B,Y,h3⟩:=h (v,i) GO;dsimp only at B Y h3;rw[GS]at hl;refine aO!;show lN eD! M _;have L:Pu m9! eD! M ed_:=by
   refine gV qm_ (bL (d:=.int (i:Nat)) rfl) ?_;have ii:i<cv!:=(g0!).1;have:Bt M bj_ h2_=Db ns cM!:=by simp[Bt,hq]
   rw[this];unfold Db Eg;rw[aX_,aX_];simpa using B
  have ht:Tx m9_ eD! M gJ_:=by
   refine vL (gV L er! ?_);show Eb ed_ G_=_;simp[Eb,Be,Hn,a3s,bne]
  have rest:∀s',s'.length<=ag_+126->(Rg l).foldl cp! s'=(Rg ((v,i)::l)).foldl cp! s->Fx c9! I_ lN rB! [z!,G!,f4!,if!,if_,some (.str s'),ao_,some h2_] M R:=λs' bu he=>by
   refine b2w hq l s' _ R (λz hz=>h z k3_) a! λy=>?_;rw[he];exact hR y
  unfold lN;by_cases c:v=0
  .have e0:gJ_=false:=by simp[c]
   rw[e0]at ht;refine uT ht ?_;refine rest s a! ?_;show _=(rB_).foldl _ _;rw[GU c]
  .have e0:gJ_=true:=by simp[c]
   rw[e0]at ht;refine a0m ht ?_;have l1:(lB!).length<=61:=uG (mR Y);have l2:(sI v).length<=61:=uG h3;have m1:(lC!).length=2:=by decide+kernel
   have m2:(lC_).length=1:=by decide+kernel
   have m3:(h2!).length=1:=by decide+kernel
   have e1:f2 Al ur! ur_ eD!=some (.str (s++Str.ofString " ["++sI (i:Nat)++Str.ofString "=")):=by
    have a1:f2 Al B! uq_ eD!=some (.str (s++Str.ofString " [")):=xK dm_;have a2:f1 Rw iQ! eD!=some (.str lB!):=b6m (mR Y);have a3:=(c5y (g:=Al) a1 a2).trans (xK q6!);exact(c5y a3 rfl).trans (xK l1!)
   unfold An;refine gV (gV (bL e1) (yZ L (b6m h3)) (lY l1!)) (bL (d:=.str h2!) rfl) (lY l1!) _ ?_;refine rest _ (by simp only[JU];omega) ?_;show _=(rB_).foldl _ _;rw[GL c,OY];congr 1;unfold Um;simp only[Str.append_assoc]
nonrec def lB(n:Nat):WS:=Ah uo_
 (Ah up!
 (Ah (Dk (Kt (Fi cs_)) c9! lN)
 (Ah (Bk na!)
 (An 3 rC_))))
def Bq.keepN{M':Mh}(h:T_)(k:ra_):Bq M' w rl W:=h.keep λc hc=>k c (h.live hc)
def Yw(w:xh!)(rl:cL!)(W:OW)(T:cX!)(n:Nat):Prop:=∀(x:D) (d:Nat) (M:Mh) (R:v_),Bq M w rl W->Ff W x->(l2!).length<=n->d+(l2!).length<=60->
 (∀M' p,km_->M' p=some (.lst ((lw W T d x).map D.str))->R x! M')->Hz n [bp!,x,.int (d:Nat)] M R
def b2u{T:cX!}{n d:Nat}(hw:dp!)(nb:Pj W)(ax:l2_)(ih:Yw w rl W T n)(hL:Bq M0 w rl W)(hd:d<=60):∀(cs:b_) (acc:j_) (p:xh!) (y4 y5 y6 y7:ac_) (M:Mh) (R:q!),
  (∀b,M0 b≠none->M b=M0 b)->M0 p=none->M p=some (.lst (acc.map D.str))->(∀c∈cs,c∈W.its/\(ie!).length<=n/\d+1+(ie!).length<=60)->cl!+(cs.flatMap ez!).length<=3000->
  (∀M' p' y4 y5 y6 y7,(∀b,M0 b≠none->M' b=M0 b)->M' p'=some (.lst ((acc++cs.flatMap λc=>lnS W d c::lw W T bb! c).map D.str))->R (.nx [z!,G!,dI!,some (.fn p'),y4,y5,y6,y7]) M')->
  Fx eE_ I_ (lB n) cs [z!,G!,dI!,I!,y4,y5,y6,y7] M R
 |[],acc,p,y4,y5,y6,y7,M,R,hM,_,hp,_,_,hR=>⟨trivial,hR M p y4 y5 y6 y7 hM v4_⟩
 |c::cs,acc,p,y4,y5,y6,y7,M,R,hM,db,hp,hc,hl,hR=>by
  obtain⟨jb,yq,bv⟩:=hc c GO;have wi:=hw.inv;obtain⟨k,hk⟩:=(wi.nm c jb).key;have WH:Bq M w rl W:=hL.keepN hM;obtain⟨hj,hjl⟩:=c5i hw jb rG_;obtain⟨n1,n2⟩:=b8v nb wi jb;have hnj:=c5q nb wi jb;have hml:=b2v (n:=d) a!;rw[JL,GW,T.eq,GS]at hl;refine aO!;show lB n rF_ M _;unfold lB;have em:f2 Sh f3_ w! rF_=some (.str (Txt.mul ev_ (d:Nat))):=by
   show bE!=_;rw[q4!]
  refine jL (gV (bL em) (kX rH! rH_ λK hK=>xL WH jb hk rG_ hj hK) (lY dm_)) ?_;obtain⟨wt,wn,qa,RS⟩:=id WH;obtain⟨e0,hw0⟩:=RS.mw;obtain⟨e1,hn0⟩:=RS.mn;have hq:=(RS.mq c jb).1;have i1:Bt M ck! m2!=some ek_:=(kC (k:=some (.inl (.inr "numbers"))) hw0 rfl).trans k3n;have i2:Bt M ek_ c=some l3!:=by rw[kC hn0 hk,lP,GU jb]
  refine jL (gV (gV rH! (bL (d:=Ab_) rfl) i1) rH_ i2) ?_;have vn:∃l:List fU_,l=nmL W c/\rJ_=[bm_,.int 1,.int 2,.int 3]/\∀z∈l,l3_[z.2]?=some (.int z.1)/\z.2<4/\z.1.natAbs<10 ^ 60:=by
   refine⟨_,rfl,?_,λz hz=>⟨?_,n2 z hz⟩⟩
   .have h4:=wi.nl c jb;unfold nmL
    match hnum:W.num c,h4 with
    |[a0,a1,a2,a3],_=>rfl
   .have h5:=QW hz;have h6:z.2<(l3_).length:=by rw[wi.nl c jb];exact(n2 z hz).1
    obtain⟨j,qc,_⟩:=nb c jb _ (IV h6);have h7:z.1=Vh (l3_[z.2]):=by have:=h5.2.2;simpa using this
    rw[HE h6,qc,h7,qc];rfl
  obtain⟨l,el,em2,hz⟩:=vn;have ll:O!=4:=by rw[el];exact n1
  unfold Ah Dk;have ei:Fi cs_ rL!=some rJ_:=by rw[em2];rfl
  unfold Kt;show Dw (Fi cs_ rL!) _;rw[ei];refine b2w hq l _ _ _ hz (by rw[JU];omega) λme=>?_;have RT:(Rg l).foldl cp! rK!=lnS W d c:=by rw[<-c5x,el];rfl
  rw[RT];show Bk na! rM! M _;refine c1n (fo:=Aa 3) (fa:=Aa 5) rfl rfl hp cL_ ?_;have cu:∀b,M0 b≠none->Ay M p l5! b=M0 b:=λb O=>(mup_ne λz:b=p=>O jL!).trans (hM b O);show An 3 rC_ rM! (Ay M p l5!) _;unfold An Sw Ao Ab Af;rw[cM (f:=Aa 3) (d:=.fn p) rfl,cM (f:=Aa 0) (d:=bp!) rfl,cM (f:=Aa 4) (d:=c) rfl,cM (f:=f2 Al w! t_) (d:=.int rd_) (by show some re_=_;simp)];refine⟨rfl,ih c bb! _ _ (hL.keepN cu) (.inl jb) yq bv λM3 p3 k3 e3=>?_⟩;have hp3:M3 p=some l5!:=(k3 p hm!).trans mup_same;have l1:lstM M3 x!=some rM_:=by simp[lstM,hp3]
  have l2:lstM M3 (.fn p3)=some ((rN!).map D.str):=by simp[lstM,e3]
  rw[l1,l2];have llw:(rN!).length=((chl W.rows c).flatMap (T.T (d+1+1))).length:=by unfold lw;rw[GX]
  refine⟨by simp only[GW,GX,IM];unfold big;omega,λp4 h4=>?_⟩;have oy:∀b,M0 b≠none->M3 b=M0 b:=λb O=>(k3 b (by rw[cu b O];exact O)).trans (cu b O);have WJ:M0 p4=none:=NZ λz=>by
   rw[oy p4 z]at h4;exact z h4
  refine b2u hw nb ax ih hL hd cs (acc++lnS W d c::lw W T bb! c) p4 _ _ _ _ _ R (λb O=>(mup_ne λz:b=p4=>O (z▸WJ)).trans (oy b O)) WJ hm! (λc' a7=>hc c' (GI _ a7)) (by rw[GW,GS,llw];omega) λM' p' y4 y5 y6 y7 g1 g2=>hR M' p' y4 y5 y6 y7 g1 ?_;rw[g2,JL];simp
def a8g(T:cX!)(hw:dp!)(nb:Pj W)(ax:l2_):∀n,Yw w rl W T n
 |0=>λx d M R _ _ h _ _=>by rw[T.eq,GS]at h;omega
 |n+1=>λx d M R hL L hn hd hR=>by
  have ih:=a8g T hw nb ax n;have wi:=hw.inv;refine m_;show Ah (An 3 gg!) (Ah (Dk uo! eE_ (lB n)) iL!) [z!,aM_,dI!,none,none,none,none,none] M _;unfold Ah An Hr Af;refine⟨W!,co_⟩;have hM:∀b,M b≠none->Ay M p bU_ b=M b:=λb O=>mup_ne λz:b=p=>O (z▸hp);unfold Dk Cp;have lr:=ax.rows;refine tJ (a:=bp!) (b:=x) rfl rfl (a4m (hL.keepN hM) wi (a3j wi L) a! ?_);have hTl:=T.len wi.rnd d x;have he:(l2!).length=(rA!).length+1:=by rw[T.eq d x];rfl
  show Fx eE_ I_ (lB n) bj! [z!,aM_,dI!,I!,none,none,none,none] (Ay M p bU_) _;refine b2u hw nb ax ih hL a! bj! [] p none none none none _ _ hM hp mup_same fk_ (by simp only[KF];omega) λM' p' y4 y5 y6 y7 g1 g2=>?_
  .have a7:=cE.mp hc;have:=T.child (d:=d) a7;exact⟨(wi.ri c).mp (GP (f:=b!) a7),r!,r!⟩
  .rw[JF,<-d1f]at g2;exact hR M' p' g1 g2
end
def c3w{W W':OW}(hs:pI_):∀x∈W'.its,x∈W.its\/x=n:=by
 cases hs with
 |put _ _ _=>
  intro x L;have l8:x∈W.its++[n]:=L;exact(GT.mp l8).imp id GY.mp
 |mvY _ _ _ _ _=>exact λx L=>.inl L
 |mvN _ _ _ _=>exact λx L=>.inl L
 |drY _ _ _=>exact λx L=>.inl L
 |drN _ _=>exact λx L=>.inl L
 |wrt _ _ _ _=>split;exact λx L=>.inl L;exact λx L=>.inl L
 |cut _ _ _ _=>split;exact λx L=>.inl L;exact λx L=>.inl L
 |set _ _ _=>split;exact λx L=>.inl L;exact λx L=>.inl L
def c3x{W W':OW}{os:o!}(hr:Uq W os W'):∀x∈W'.its,x∈W.its\/x∈os.map Op.nm:=by
 induction hr with
 |nil=>exact λx L=>.inl L
 |cons hs _ ih=>
  intro x L;obtain z|z:=ih x L
  .obtain z|z:=c3w hs x z
   .exact cz_
   .exact .inr (by rw[z,GM];exact GO)
  .exact .inr (GI _ z)
def a5f{W:OW}{os:o!}(wi:Bx W)(hr:Uq W0 os W):aw!<=aP_:=by
 have B:=a9w (m:=os.map Op.nm) wi.rnd λx L=>(c3x hr x ((wi.ri x).mp L)).resolve_left λz=>by cases z
 simpa using B
nonrec def Tr.cast{r1 r2:g!}(T:Tr r1)(h:lU!):Tr r2:=⟨T.T,T.f,λx c hc=>T.dec x c (cE.mp (by rw[h];exact cE.mpr hc)),λd x=>by rw[<-h];exact T.eq d x⟩
section
variable{t:Aw}{M:Mh}{ρ:Ad}{a ta wa:xh!}{W:OW}{S:List Op}{kl:List Int}{ca:Int->Addr}{pre:List D}{R:D->Mh->Prop}
def b6r(T:cX!)(hA:qF!)(hH:Hist S)(hS:fJ_)(hr:Uq W0 qF_ W)(hw:dp!)(nb:Pj W)(ax:l2_)(hrl:aw!<=64)
  (hR:∀M',R ip! M'):Pm t [az!] M R:=by
 have wi:=hw.inv;refine m_;show Ah (An 1 iI_) s2_ [u_,none] M _;unfold Ah An;refine a8c (a:=az!) rfl (c3b hA hH hS hr λM1 o af h _=>?_);show Bf _ [u_,A!] M1 _;unfold Bf Ca Cp CB;refine tJ (a:=az!) (b:=root) rfl rfl (b8i T h wi a! (.inr aA!) λM2 k2=>?_);have Y:=h.keepN k2;have hTl:=T.len wi.rnd 0 root;have he:(T.T 0 root).length=(ir!).length+1:=by rw[mc!];rfl
 have ec:Da rT! do! none=(ir!).map Ma:=by
  rw[mc!,GM];generalize (ma_).flatMap (T.T (0+1))=l;simp[Da,HT.sIx];exact OO (by rw[GX];exact HD _)
 show(rU_).length<=big/\Qv _ _ _ _ _ rU_ M2 _;rw[ec];refine Ac_;refine cW fm! rV! trivial _ _ bQ! ?_
 .obtain⟨⟨k,x⟩,hq,rfl⟩:=HB.mp hd;obtain⟨g1,g2,g3⟩:=T.mem2 (n:=T.f root+1) (x:=root) (d:=0) eO_ _ hq;dsimp only at g1 g2 g3;have g3:k<=0+(ir!).length:=g3;obtain⟨k,rfl⟩:∃k',k=k'+1:=⟨k - 1,r!⟩;refine⟨[some kJ!,aM_,A!],rfl,he!,dq_⟩;have L:=(wi.ri x).mp g1;have e1:kI_=(k:Nat)+1:=by simp
  have hk:rX!=k:=by simp
  have hl:=c3q (k:=k) Y hw nb L (JD (ax.txt x) c!) a!;rw[<-e1]at hl;refine b7l eu_ (bL (d:=.int kI_) rfl) fT! hl _ ?_;have mf:K (.str (lnS W rX! x)) M2:=hK;rw[hk]at mf;exact mf
 .have e2:(((ir!).map Ma).filter λ_=>true).map rV!=(io_).map D.str:=by
   rw[JI.mpr λ_ _=>rfl,II];unfold lw;rw[II];apply IQ;intro q _;show D.str (lnS W (((q.1:Nat):Int).toNat - 1) q.2)=_;rw[LB];rfl
  rw[e2];exact hR M2
def c4l(h:cf!)(hd:Hn d<=40):Bc d d=some D_:=by unfold Bc;rw[h,pY d h,HN hd];rfl
def a8q(l:j_):Be mc_=true/\Hn mc_<=40:=by
 show"!O"
 .show Bu dD!=true;exact rE λd hd=>by obtain⟨s,_,rfl⟩:=HB.mp hd;rfl
 .show Dz dD!+1<=40;have:=xD (n:=1) (ds:=l.map D.str) λd hd=>by obtain⟨s,_,rfl⟩:=HB.mp hd;simp[Hn]
  omega
def b3z{l:j_}(hl:O!<=1000):Ki (Co nb_) (Co nc_) f9!=some false:=by
 obtain⟨ys,e,_,hr⟩:=jI (ρ:=ce_) (bnd:=Bn 0) (ft:=j3!) (fe:=Dj "str" n!) qw! dD! (by
  intro d hd;obtain⟨s,_,rfl⟩:=HB.mp hd;exact⟨[gT!],true,rfl,rfl,λ_=>⟨h8_,rfl,rfl⟩⟩)
 have hc:Ey 1 [] (Eu F_) R_ aJ_ lW_ f9!=some a6!:=by
  show(if(dD!).length<=big then Option.map D.lst (Fb _ _ _ ce_ dD!)else none)=_;rw[GU cL_,e];rfl
 have ha:f1 Md uA_ f9!=some D_:=by
  rw[b3f (c1o hc)];show"#&"
 have B:Co nb_ f9!=some false:=rfl;have Y:Co nc_ f9!=some false:=by
  unfold Co fT;rw[ha];rfl
 unfold Ki;rw[B,Y];rfl
def c7s{f:d_}{m k:Int}(h:f ρ=some bN!)(hk:0<k):f2 Bz f (fC lg!) ρ=some (.int (m%k)):=by unfold f2;rw[h];show Ds n6! (λi j=>.int (i%j)) bN! lg!=_;simp[Ds,hk]
def c9s{f g:d_}{a:D}(B:kT!)(Y:kT_):Ac f (Ac g Ag) ρ=some af!:=by unfold Ac;rw[B,Y];rfl
def a4w{i:Nat}{f:WE}{q:WS}{R:q!}(h:f ρ M λd M1=>q bN_ M1 R):Ah (An i f) q ρ M R:=h
def c1l{g:WF}{f1:WE}{f2 f3:d_}{K:v_}(Y:fd!)(h3:kf!):Ao 3 g (Ab f1 xH!) ρ M K=f1 ρ M λa M1=>(cR_).length=3/\g cR_ M1 K:=by unfold Ao Ab Af;simp only[cM Y,cM h3]
def d0a{g:bT!}{fa:d_}{fb:WE}{K:v_}(h:o1_):w2 g eh_ fb ρ M K=fb ρ M λy M2=>match g M2 x y with|some d=>K d M2|none=>False:=by
 unfold w2;rw[cM h]
 try congr 1
def c6m{f:WE}{R:q!}(h:f ρ M λd M1=>R aW_ M1):Bf f ρ M R:=h
def b9l{ns:D!}(nd:t.nd):Yu t lt_ M0 (λd _=>d=.bl true):=by
 obtain⟨m,em,m0,_⟩:=jS ns (k:=60);have hN0:0<=m%13:=KH _ c!;have ZN:m%13<13:=JQ _ c!;obtain⟨N,hN⟩:∃N:Nat,(N:Int)=m%13:=⟨(m%13).toNat,r!⟩;obtain⟨os,ew,hl,hO⟩:=b3t ns 0 N a!;have lu:aP_<64:=by omega
 have hp:(it_).Perm os:=cK os;have u8:(me!).Sublist it_:=NN;have hel:(me!).length<=13:=by have:=u8.length_le;have:=hp.length_eq;omega
 obtain⟨W,hr,⟨pre,hw⟩,ax,det⟩:=b6z me! W0 [] 0 b3r c1p (λo ho=>⟨(r0_).dg,(JK (JP.mp ho).2).1⟩) (λ_ _=>by simp) (((hr!).nodup_iff.mpr hO.names).sublist (u8.map _));have wi:=hw.inv;have nb:Pj W:=a5z hr r3! λx L=>by cases L
 have hrl:=a5f wi hr;obtain⟨T⟩:=d0d wi.rk;have hlw:(io_).length<=64:=by
  have B:=T.len wi.rnd 0 root;rw[mc!,GS]at B;unfold lw;rw[GX];have:((ma_).flatMap (T.T (0+1))).length<=aw!:=by omega
  omega
 refine m_;show Ah ux! _ gb! M0 _;have e1:f1 Jq (Ac n! nb!) gb!=some k2!:=by
  have B:f1 Ck uw! gb!=some bN!:=(b3f (c9s (f:=Aa 0) (g:=fC lS_) rfl rfl)).trans em;have Y:=c7s (ρ:=gb!) B (k:=13) c!;have h3:Ac n! nb! gb!=some [dl_,bm_,.int N]:=by
   rw[<-hN]at Y;exact c9r rfl rfl Y
  exact(b3f h3).trans ew
 refine a0s e1 ?_;show Ah uy! _ [X!,k2_,none,none] M0 _;refine a4w ?_;refine b5f λa ta wa M1 ha hA _=>?_;show Ah uy_ _ r5_ M1 _;refine a4x (tJ (a:=az!) (b:=.lst aI!) rfl rfl (c1z nd hA hO lu λM2 kl ca RQ=>?_));show Ah uz! _ r5_ M2 _;refine a4w (a8c (a:=az!) rfl (b6r T RQ hO lu hr hw nb pO! a! λM3=>?_));show Ah uD! uE_ [X!,k2_,u_,some ip!] M3 _;refine oO (b1q (b3z a!)) (c6m ?_);rw[d0a (fa:=Aa 3) (x:=.lst l9_) rfl,c1l (f2:=fC f3!) (f3:=fC G_) (b:=root) (c:=.int c2!) rfl rfl];refine a8c (a:=.lst aI!) rfl (c1q hO.keys hO.names lu (λo ho=>(hO.op o ho).dg) λw M4 rl V _ RU hL ⟨pre2,hv⟩ limv _=>?_);have ev:BU W V:=det W0 V ⟨rfl,rfl,rfl,eO!⟩ b3r RU;have vi:=hv.inv;have nbv:Pj V:=a5z RU r3! λx L=>by cases L
 have hrl2:=a5f vi RU;have htl:=(mh!).len vi.rnd 0 root;refine⟨rfl,a8g mh! hv nbv limv 20 root 0 M4 _ hL (.inr aA!) a! a! λM5 p _ e5=>?_⟩;have elw:lw V mh! 0 root=lw W T 0 root:=by
  have RT:∀k x,lnS V k x=lnS W k x:=λk x=>by
   unfold lnS nmL Xh Ug;rw[ev.num,ev.txt]
  unfold lw;rw[ev.ch];exact IQ λq _=>RT _ _
 rw[elw]at e5;have er:Te M5 x!=.lst l9_:=by simp only[Te,e5]
 have hq:Zr M5 ip! x!=some D_:=by
  unfold Zr;rw[er];obtain⟨n1,n2⟩:=a8q io_;exact c4l n1 n2
 show(match Zr M5 ip! x! with|some d=>_|none=>False);rw[hq]
end
end K26
namespace K26
open PySem L2 DL
section
variable{P:xR!}{w:xM!}{K:zT!}{mg:Str->Option Value}{base:Heap}{t:Aw}
def lC(T:h!):Ok P w K mg base 1 "is_whole" p_ (Fs):=
 eB (h2:=[]) (k:=0) T.C8 a4z (λhr=>(bA (bO (kI (iK c4a rfl T.Q4 rfl T.Q3 cH c9m E!) (kI (c9b (iK b9z rfl T.Q4 rfl T.P9 cH c5d E!)) (gQ (fI b2h b2k (cC c1j c9j rfl T.P7 c9n b2!) (aT c7b c7i aB aB) v!)))))))
def iD(T:h!):Ok P w K mg base 2 "is_from_one" p_ (Dx):=
 eB (h2:=[]) (k:=1) T.D1 vA (λhr=>(bA (bO (kI r8_ (gQ (fI d0u d0w E! aB v!))))))
def lD(T:h!):Ok P w K mg base 2 "is_below" fU! (Gy):=
 eB (h2:=[]) (k:=1) T.C9 a5b (λhr=>(bA (bO (kI r8_ (gQ (a7t kZ lA b2h b2k aB E! V!))))))
def iC(T:h!):Ok P w K mg base 3 "is_name" p_ (Ed):=
 eB (h2:=[]) (k:=2) T.D2 a8x (λhr=>(aZ mm! (bA (bO (kI (aR (lD T) e! rfl (aD a2! (aD (gK T.R8 rfl) aK)) aC!) (gQ sb!))))))
def kM(T:h!):Ok P w K mg base 4 "is_sign_name" p_ (Ec):=
 eB (h2:=[]) (k:=3) T.D3 tK (λhr=>(aZ mm! (bA (bO (kI sc! (gQ (aR (lD T) e! rfl (aD a2! (aD mn! aK)) aC!)))))))
def a9p(T:h!):Ok P w K mg base 4 "is_item" p_ (Gx):=
 eB (h2:=[]) (k:=3) T.D4 a8y (λhr=>(bA (bO (zZ sd! (zZ se! (gQ se!))))))
def xV(T:h!):Ok P w K mg base 4 "is_sibling" p_ (Fa):=
 eB (h2:=[]) (k:=3) T.D5 xQ (λhr=>(bA (bO (zZ sf! (gQ sd!)))))
def a1m(T:h!):Ok P w K mg base 5 "is_behind" p_ (Fw):=
 eB (h2:=[]) (k:=4) T.D6 a0y (λhr=>(bA (bO (zZ sf! (gQ (aR (kM T) e! rfl b2! aL!))))))
def a9o(T:h!):Ok P w K mg base 1 "is_sign" dC_ (Gv):=
 eB (h2:=[]) (k:=0) T.D7 a8v (λhr=>(bA (bO (kI (a7t kZ lA kZ lA aP E! aP) (gQ (fI zD zF (cC c1h c9i rfl T.Q7 c9l b2!) (gK T.S7 rfl) v!))))))
def a9n(T:h!):Ok P w K mg base 2 "is_text" p_ (Jp):=
 eB (h2:=[]) (k:=1) T.D8 a8u (λhr=>(aZ (gH (tT (xA (fR (eU sj!)) (oG (fR (c0p kZ lA kZ lA aB gd! mn!))))) eH! dR) (bA (bO (cC iC! a4d rfl T.P8 a4g (aD (kH (NL:=dC_) (NF:=[]) (ix:=[]) rfl c! n_ (bV (sc:=Ae Mx) rfl n_) Dq.nil c! rfl (c8w E!) (λ_ _ _ _ _=>bD (i:=0) (show(dC_:List Str).Nodup by decide+kernel) rfl a_) aL_ eJ_ (λ_ _ _ _ _=>(aR (a9o T) e! rfl b2! aL!))) aK))))))
def a5v(T:h!):Ok P w K mg base 3 "is_place" p_ (Io):=
 eB (h2:=[]) (k:=2) T.D9 a5a (λhr=>(bA (bO (aR (lD T) e! rfl (aD E! (aD (gK T.S0 rfl) aK)) aC!))))
def gU{g:W_}{ps:j_}{k:Nat}(h:Ok P w K mg base k x ps g)(hm:mg x=some bO!)(hp:S!=1)(hk:k<=5):∃fd ps,S!=1/\Fk P w K mg base Pk 5 σ fd ps jW_/\Ez K fd ps []/\W.keepIn K bO!=true:=by obtain⟨f',fd,B,Y,h3,h4⟩:=h;rw[hm]at h3;cases h3;exact⟨fd,ps,hp,B.mono hk,Y,h4⟩
def c4j(T:h!):Yx P w K mg base 5 1 (Ks t):=by
 intro σ g e;unfold Ks at e;show"!6"
 .show"!5";exact gU (a9p T) T.S9 rfl c!
 show"!6"
 .show"!5";exact gU (xV T) T.T0 rfl c!
 show"!6"
 .show"!5";exact gU (a1m T) T.T1 rfl c!
 show"!6"
 .show"!5";exact gU (a9n T) T.T2 rfl c!
 show"!6"
 .show"!5";exact gU (kM T) T.T3 rfl c!
 show"!6"
 .show"!5";exact gU (iD T) T.T4 rfl c!
 show"!6"
 .show"!5";exact gU (a5v T) T.T5 rfl c!
 show"!6"
 .show"!5";exact gU (lC T) T.T6 rfl c!
 show"!6"
 .show"!5";exact gU (iC T) T.T7 rfl c!
 cases e
def jQ(T:h!):Dy P w K mg base 1 t.B3 "have" fZ! (Ej t):=
 cF (h2:=[]) (k:=0) T.T8 T.K7 a1d (λhr=>(aG (bR (pK cO b0x rfl T.Q5 eA (aF (wB x_ eK! w_ mw! c4!) aO)))))
def a9s(T:h!):Vv P w K mg base 1 "Hand" t.B3 fY_ (Lw t):=
 a1s (h2:=[]) (k:=0) T.K6 a9a (λhr=>(aE (fQ T.T8 T.U9 k_ w_) (aE (fQ T.T8 T.V0 k_ eY) (aE (fQ T.T8 T.V2 k_ (pH aO)) sp_))))
def b8s(T:h!):Ok P w K mg base 1 "_law_cell" cW_ (Nv):=
 eB (h2:=[]) (k:=0) T.N7 b6u (λhr=>(aZ (gH (a7o E!) sr_ dR) (bA (bO aB))))
def a1r(T:h!):Mu P w K mg base 1 "_law_children" bY_ (Iz):=
 cJ (h2:=[]) (k:=0) T.P3 a1c (λhr=>(aG (bR (jV (NL:=[bd!]) (NF:=[bt!]) (ix:=[1]) rfl c! n_ (bV (sc:=Ae Ju) rfl n_) iD_ c! rfl (eI a3!) mz! aL_ sv! mz_))))
def fY(T:h!):Ok P w K mg base 2 "_law_mix" cW_ (Ck):=
 eB (h2:=[]) (k:=1) T.N8 a1b (λhr=>(aZ (fH (i:=2) a1b.nd rfl a_ (aT fD fE (aT aN bI (aR (b8s T) e! rfl (aD E! eL!) aC!) (aT qW qX aB sx!)) aB)) (aZ (fH (i:=2) a1b.nd rfl a_ (aT fD fE (aT qW qX aj_ aB) aB)) (bA (bO (aT fD fE (aT aN bI (aT qW qX (aT mI mJ aj_ aB) aB) aj_) aB))))))
def b4x(T:h!):Ok P w K mg base 1 "_law_items" aA_ (Ln):=
 eB (h2:=[]) (k:=0) T.N9 b4i (λhr=>(bA (bO (aT aN bI (aT aN bI (iJ (n:=8) rfl) (kH (NL:=[bd!]) (NF:=[]) (ix:=[]) rfl c! n_ (bV (sc:=Ae Of) rfl n_) Dq.nil c! rfl iF! sB_ aL_ (λ_ _ _ _ _=>d0o (bM aC_ bZ mC! aP v!)) sD_)) (iJ (n:=12) rfl)))))
def b4w(T:h!):Ok P w K mg base 1 "_law_signs" aA_ (Lm):=
 eB (h2:=[]) (k:=0) T.O0 mD (λhr=>(aZ (lW (i:=1) mD.nd rfl a_ (aD dI (aD sG! aK))) (aZ (b0r HV rfl iF! mD.nd rfl a_ (bA (gH (bM aC_ bZ iF_ aP v!) (bA (b0r HV rfl (gJ rfl T.Q8 (cC cO eO rfl T.Q5 eA (aD iF_ aK))) mD.nd rfl a_ (bA (mS (i:=1) c! (cV (aD a3_ (aD a3_ mD!))))))) dR))) (a7p (bA (bO V!))))))
def b8o(T:h!):Ok P w K mg base 1 "_law_text" nL_ (Nu):=
 eB (h2:=[]) (k:=0) T.O1 a5d (λhr=>(aZ (fH (i:=2) a5d.nd rfl bl_ aP) (bA (bO (b3j aP (kH (NL:=[bc!]) (NF:=[cW!,lK_]) (ix:=[0,2]) rfl c! n_ (bV (sc:=Ae Qb) rfl n_) (Dq.cons (j:=0) sL_) c! rfl (gJ rfl T.Q8 (aT aN bI aB (aT fD fE E! V!))) (λ_ _ _ _ _=>bD (i:=0) (show([bc!,cW!,lK_]:List Str).Nodup by decide+kernel) rfl a_) aL_ eJ_ (λ_ _ _ _ _=>(aL aH aJ aj_ (aT fD fE (aT mI mJ V! (aT aN bI aB (aT qW qX aB E!))) aB) r_))))))))
def jE(T:h!):Ok P w K mg base 1 "_law_pick" f0_ (Dt):=
 eB (h2:=[]) (k:=0) T.O2 b6s (λhr=>sr_)
def b8r(T:h!):Ok P w K mg base 3 "_law_deed" lM_ (Jy):=
 eB (h2:=[]) (k:=2) T.O3 eV (λhr=>(aZ (fH (i:=4) eV.nd rfl a_ (aR (fY T) e! rfl (aD E! eL!) aC!)) (aZ (fH (i:=5) eV.nd rfl a_ (aR (b4x T) e! rfl eN! aL!)) (aZ (fH (i:=6) eV.nd rfl a_ (aR gk! e! rfl (aD (aT aN bI (dS ak! c3_ dY) (dS ak! dY c3_)) gk_) aC!)) (aZ (fH (i:=7) eV.nd rfl a_ (aR gk! e! rfl (aD (aT aN bI ak! gl!) gk_) aC!)) (aZ (gH (eU (iK uH rfl T.Q4 rfl T.R4 cH sD cv_)) (bA (fH (i:=7) eV.nd rfl a_ dI)) dR) (aZ (fH (i:=8) eV.nd rfl a_ (iJ (n:=19) rfl)) (aZ (fH (i:=9) eV.nd rfl a_ (aL aH aJ b4! sQ! r_)) (aZ (gH gl_ (bA (bO (cV (aD cw! sS!)))) dR) (aZ (gH gl_ (bA (bO (cV (aD cw! (aD bJ_ sS!))))) dR) (aZ (gH gl_ (bA (bO (cV (aD cw! mG!)))) dR) (aZ (fH (i:=10) eV.nd rfl a_ (aR gk! e! rfl (aD (aR (b4w T) e! rfl eN! aL!) gk_) aC!)) (aZ (gH gl_ (bA (bO (cV (aD cw! (aD bJ_ (aD iK! (aD (aR (b8o T) e! rfl (aD sP! mD!) aC!) aK))))))) dR) (aZ (gH (tT (xB gl_ (qB (bM mG mL iK! dI v!)))) (bA (bO (cV (aD cw! (aD bJ_ (aD iK! (aD (aT aN bI aB (aT fD fE sW! (aT nR nV aB (aL aH aJ iK! aB r_)))) aK))))))) dR) (aZ (gH (bM b4s d0y cw! gl! rfl) (bA (bO (cV (aD aP (aD bJ_ (aD sZ_ (aD (aT nR nV sZ_ aB) aK))))))) dR) (aZ (fH (i:=11) eV.nd rfl a_ (aT aN bI (kH (NL:=[bd!]) (NF:=[]) (ix:=[]) rfl c! n_ (bV (sc:=Ae Qf) rfl n_) Dq.nil c! rfl (fS aj_) sB_ aL_ eJ_ sD_) (rY (aD (cV (aD aB (aD (aT aN bI aB sQ!) aK))) aK)))) (bA (bO (cV (aD cw! (aD (aR gk! e! rfl (aD (aA 11) gk_) aC!) aK)))))))))))))))))))))
def a5y(T:h!):Mu P w K mg base 1 "_law_hang" cX_ (Gi):=
 cJ (h2:=[]) (k:=0) T.O7 jD (λhr=>(aE (mN (i:=4) (NL:=[bd!]) (NF:=[bt!]) (ix:=[1]) jD.nd rfl a_ rfl c! n_ (bV (sc:=Ae Qd) rfl n_) iD_ c! rfl (eI a3!) mz! aL_ (λ_ _ _ _ _=>sL (eX (bM eP! rC a2! V! v!))) mI!) (aE (aW (i:=5) jD.nd rfl a_ au_) (aE (iF HV (eX (tT (xB (bM b2h b2k ak! s4_ v!) (qB (bM eP! rC (aL aH aJ (aL aH aJ by! ak! r_) aB r_) aj_ v!))))) (aG (aW (i:=5) jD.nd rfl a_ (aC (aT aN bI ak! aB))))) (aE (eM HV rfl (rH (gJ rfl T.Q8 s4_)) (bD (i:=6) jD.nd rfl a_) (dA 6) (aG (cN (eX (tT (xB (bM mG mL aD! dI v!) (qB (bM aC_ bZ (aL aH aJ by! bJ_ r_) (cV (aD aD! eN!)) v!))))) (aG (aW (i:=5) jD.nd rfl a_ (aC (aT aN bI bJ_ aB)))) cB))) (aG (dD x_ k_ aS_ (aC (aT aN bI (aT aN bI (dS by! dY (dX ak!)) (rY (aD (cV (aD V! eN!)) aK))) (dS by! (dX ak!) dY))))))))))
def b8q(T:h!):Mu P w K mg base 1 "_law_lies" lO! (Lv):=
 cJ (h2:=[]) (k:=0) T.O8 vD (λhr=>(aE (iF HV (eX s7!) (aE (mN (i:=3) (NL:=[bd!]) (NF:=[bt!]) (ix:=[1]) vD.nd rfl a_ rfl c! n_ (bV (sc:=Ae Qc) rfl n_) iD_ c! rfl (eI a3!) mz! aL_ sv! mz_) (aE (cN (eX (fR (a7o aD!))) mJ_ cB) (aG (aW (i:=1) vD.nd rfl bl_ gp!))))) mJ_))
def a5x(T:h!):Mu P w K mg base 2 "_law_move" cX_ (Iy):=
 cJ (h2:=[]) (k:=1) T.O9 b6t (λhr=>(aG (cN (a6f (nW (eG b4_ eS w_ a3! rfl) (jR (a6f (d1c (eG b4_ eS Q! a3! rfl) (c7q (eG b4_ eS Q! (aC gl!) rfl))))))) (aG (cN (rG (fP (aU (b8q T) e! rfl (aF k_ mL!)))) (aG (cI (aU (a5y T) e! rfl (aF k_ (aF w_ (aF Q! iN_)))))) cB)) cB)))
def c7l(T:h!):Mu P w K mg base 3 "_law_do" nW_ (Vi):=
 cJ (h2:=[]) (k:=2) T.P0 hW (λhr=>(aE (aW (i:=2) hW.nd rfl bl_ gp_) (aE (aW (i:=3) hW.nd rfl bl_ (aC (cV (aD eR! (aD eR! aK))))) (aG (cN b5_ (aE (aW (i:=4) hW.nd rfl a_ (c5u (jW b4_ eS by_ a3! rfl) (wA (aC (fI aC_ bZ a3_ aP v!))))) (aE (dD x_ a3! av! mw!) (aE (dD x_ a3! av! (pH (aF au_ (aF au_ (aF au_ iO_))))) (aG (cI (aU (a5y T) e! rfl (aF k_ (aF av! (aF (aC (d1s (eU by!) a3_ aP)) iP_))))))))) (aG (cN b5_ (aG (cI (aU (a5x T) e! rfl (aF k_ gq!)))) (aG (cN b5_ (aG (cI (aU (a5x T) e! rfl (aF k_ tj_)))) (aG (cN mO_ (aG (dD x_ tm! by_ by_)) (aG (cN mO_ (aE tm_ (aE (aW (i:=6) hW.nd rfl a_ au_) (aE (eM HV rfl (rH (gJ rfl T.Q8 (cC cO eO rfl T.Q5 eA (aD ak! aK)))) (bD (i:=7) hW.nd rfl a_) (dA 7) (aG (cN (eX (bM aC_ bZ (aL aH aJ (aL aH aJ ak! cv_ r_) aB r_) a3_ v!)) (aG (aW (i:=6) hW.nd rfl a_ (aC (aT aN bI cv_ aB)))) cB))) (aE (mN (i:=8) (NL:=[bc!]) (NF:=[ey!,lO_]) (ix:=[2,3]) hW.nd rfl a_ rfl c! n_ mP_ (Dq.cons (j:=2) (Dq.cons (j:=3) Dq.nil)) c! rfl (rH (gJ rfl T.Q8 (cC cO eO rfl T.Q5 eA (aD a3_ aK)))) (λ_ _ _ _ _=>bD (i:=0) (show([bc!,ey!,lO_]:List Str).Nodup by decide+kernel) rfl a_) aL_ gr_ (λ_ _ _ _ _=>(aC (cV (aD (aT aN bI aj_ (cV b2!)) (aD (aL aH aJ eR! E! r_) (aD gR aK))))))) (aG (dD x_ a3! by_ (aC (aT aN bI (aT aN bI (dS ak! dY (dX bJ_)) b4!) (dS ak! (dX bJ_) dY))))))))) (aG (cN mO_ (aE (aW (i:=9) hW.nd rfl bl_ (jV (NL:=[bc!]) (NF:=[ey!]) (ix:=[2]) rfl c! n_ mP_ sL_ c! rfl (rH (gJ rfl T.Q8 a3_)) (λ_ _ _ _ _=>bD (i:=0) (show([bc!,ey!]:List Str).Nodup by decide+kernel) rfl a_) aL_ gr_ (λ_ _ _ _ _=>(aC (aT aN bI (dS eR! dY c3_) (cV (aD (aT aN bI (aL aH aJ eR! aB r_) E!) aK))))))) (aE tm_ (aG (dD x_ a3! by_ (jV (NL:=[iT_]) (NF:=[nW!]) (ix:=[9]) rfl c! n_ mP_ (Dq.cons (j:=9) Dq.nil) c! rfl (rH (fS ak!)) (λ_ _ _ _ _=>bD (i:=0) (show([iT_,nW!]:List Str).Nodup by decide+kernel) rfl a_) aL_ gr_ (λ_ _ _ _ _=>(c7y (aF gi_ (aF gi_ (aF (a1z gi_ (wA (jW iU! eS gi_ w_ rfl))) aO)))))))))) cB)))))))))))))))
def sK(T:h!):Mu P w K mg base 1 "_law_ordered" aA_ (Fu):=
 cJ (h2:=[]) (k:=0) T.O5 gB (λhr=>(aE (a9x (lW (i:=1) gB.nd rfl a_ aK)) (aE (eM HV rfl (rH iF!) (bD (i:=2) gB.nd rfl a_) (dA 2) (aE (aW (i:=3) gB.nd rfl a_ (aC (b3k tz_))) (aE (iF HV (eX (tT (xB (bM b8j b8l aD! aB v!) (qB (bM (c7g (Ak.units0 hr)) c7p (cV (aD tB! (aD tB! aK))) (cV (aD a3_ (aD a3_ aK))) v!))))) (aG (aW (i:=3) gB.nd rfl a_ (aC tA_)))) (aG (a9x (b5s (i:=1) c! aD! aj_)))))) (oZ dR_))))
def a9r(T:h!):Mu P w K mg base 2 "_law_undone" aA_ (Lu):=
 cJ (h2:=[]) (k:=1) T.O6 nM (λhr=>(aE (aW (i:=1) nM.nd rfl a_ eY) (aE (eM HV rfl tE! (bD (i:=2) nM.nd rfl a_) (dA 2) (aG (cN (eG b4_ eS iX! (aC gl!) rfl) (aG (dD x_ w_ iX! (aC (fI aC_ bZ iF_ aP v!)))) cB))) dR_)))
def b8p(T:h!):Mu P w K mg base 4 "_law_play" aA_ (Po):=
 cJ (h2:=[]) (k:=3) T.P1 oR (λhr=>(aE (aW (i:=1) oR.nd rfl a_ (pJ x_ (gW aS_ mw! (gW aS_ eY (gW aS_ eY vW))))) (aE (aW (i:=2) oR.nd rfl a_ (aU (a9r T) e! rfl c7!)) (aE (eM HV rfl tE! (bD (i:=3) oR.nd rfl a_) eU! (aG (cN (a6f (nW (eG iU! eS (aC (aL aH aJ iN! aB r_)) (aC gl!) rfl) (jR (rG (fP (wB x_ Q! (aC (cV (aD iN! (aD iN! aK)))) iM_ c4!)))))) (aG (cI (aU (c7l T) e! rfl mV_))) cB))) dR_))))
def vT(T:h!):Mu P w K mg base 1 "_law_shown_text" bY_ (Hc):=
 cJ (h2:=[]) (k:=0) T.P4 vC (λhr=>(aG (bR (b2r (jV (NL:=[iT_]) (NF:=[]) (ix:=[]) rfl c! n_ (bV (sc:=Ae Ig) rfl n_) Dq.nil c! rfl (eI (bU P! bF a3! w_ r_)) (λ_ _ _ _ _=>bD (i:=0) (show([iT_]:List Str).Nodup by decide+kernel) rfl a_) aL_ (λ_ _ _ _ _=>sL (eX (eU a2!))) mz_)))))
def a5w(T:h!):∀n:Nat,Mu P w K mg base (1+n+1) "_law_rows" f1_ (Hz n)
 |0=>cJ (h2:=[]) (k:=1) T.P5 fM (λhr=>b5d)
 |n+1=>have ih:=a5w T n
 cJ (h2:=[]) (k:=1+n+1) (q:=Tf (Hz n)) T.P5 fM (λhr=>(aE (aW (i:=3) fM.nd rfl a_ (pH aO)) (aE (eM HV rfl (eI (aU (a1r T) (hr.mono a!) rfl c7_)) (bD (i:=4) fM.nd rfl a_) (dA 4) (aE (aW (i:=5) fM.nd rfl a_ (sM aN iM (aC (aT b2g b2l aP aj_)) (aU (vT T) (hr.mono a!) rfl (aF k_ (aF aE! aO))))) (aE (aW (i:=6) fM.nd rfl a_ (bU P! bF a3! aE! r_)) (aE (eM HV rfl (rH (gJ rfl T.Q8 aB)) (bD (i:=7) fM.nd rfl a_) (dA 7) (aG (cN (eG eP! c7j tR_ au_ v!) (aG (aW (i:=5) fM.nd rfl a_ (sM aN iM (sM aN iM (aC (aT aN bI (aT aN bI (aT aN bI ak! aP) (b5u a8b c1g rfl T.R4 sD (aD cv_ aK))) aP)) (zL a8b (Mv.toM c1g) rfl T.R4 sD (aF tR_ aO))) aS_))) cB))) (aE (cI (uE av! i1!)) (aG (aW (i:=3) fM.nd rfl a_ (c3o av! (aU (g:=Hz n) (ps:=f1_) ih hr rfl (aF k_ (aF aE! (aF (aC (aT aN bI aj_ aB)) aO)))))))))))) (aG (bR av!)))))
def b4v(T:h!):Ok P w K mg base 4 "_law_world" lN! (Jq):=
 eB (h2:=[]) (k:=3) T.O4 fJ (λhr=>(aZ (lW (i:=3) fJ.nd rfl a_ aK) (aZ (lW (i:=4) fJ.nd rfl a_ tX!) (aZ (lW (i:=5) fJ.nd rfl a_ tX!) (aZ (b0r HV rfl (gJ rfl T.Q8 aj_) fJ.nd rfl a_ (aZ (fH (i:=7) fJ.nd rfl a_ (aR (fY T) e! rfl (aD E! (aD tY_ aK)) aC!)) (aZ (fH (i:=8) fJ.nd rfl a_ (aT fD fE cv_ aB)) (aZ (c0q (i:=4) c! b4! (aT aN bI tZ_ aB)) (aZ (c0q (i:=5) c! b4! (aT aN bI (aT aN bI t0_ aB) (aT fD fE (aT mI mJ cv_ aB) aB))) (aZ (fH (i:=9) fJ.nd rfl a_ (b3k (aR (b8r T) e! rfl (aD E! (aD (aT aN bI tY_ aB) (aD aD! mY_))) (aM (aM aC!))))) (bA (mS (i:=3) c! (cV (aD (aL aH aJ sG! b4! r_) (aD tZ_ (aD t0_ (aD cw! aK))))))))))))) (a7p (bA (bO aD!))))))))
def iE(T:h!):Dy P w K mg base 1 t.B4 "has" U! (Cw t):=
 cF (h2:=[]) (k:=0) T.T9 T.F9 vB (λhr=>(aG (bR (jW b4_ eS w_ eV_ rfl))))
def dU(T:h!):Dy P w K mg base 1 t.B4 "has_item" U! (Ct t):=
 cF (h2:=[]) (k:=0) T.T9 T.G6 mU (λhr=>(aG (bR (jW b4_ eS w_ i3_ rfl))))
def lF(T:h!):Dy P w K mg base 1 t.B4 "is_within" fW_ (Fe t):=
 cF (h2:=[]) (k:=0) T.T9 T.G7 gA (λhr=>(aE (iF HV (eX (tT (xB (bM mG mL V! dI v!) (qB s7!)))) (aG (aW (i:=1) gA.nd rfl a_ t6!))) (aG (bR t7!))))
def mX(T:h!):Dy P w K mg base 2 t.B4 "can_move" fX! (Ft t):=
 cF (h2:=[]) (k:=1) T.T9 T.G9 mV (λhr=>(aG (bR (a1z m7! (a1z t8_ (wA (c7z (bW (lF T) e! k_ mL!))))))))
def nE(T:h!):Dy P w K mg base 1 t.B5 "listed" aQ_ (Hx t):=
 cF (h2:=[]) (k:=0) T.U0 T.F7 fX (λhr=>(aE (a9x (lW (i:=1) fX.nd rfl a_ aK)) (aE (aW (i:=2) fX.nd rfl a_ (bU P! bF c9_ cu_ r_)) (aE (iF HV (eX (bM mG mL aj_ dI v!)) (aE (a9x (mS (i:=1) c! aj_)) (aG (aW (i:=2) fX.nd rfl a_ (bU P! bF c9_ Q! r_))))) (oZ dR_)))))
def jP(T:h!):Dy P w K mg base 2 t.B4 "children_of" U! (Dp t):=
 cF (h2:=[]) (k:=1) T.T9 T.J3 jO (λhr=>(aG (bR (a6k (nE T) e! (bU P! bF eV_ w_ r_)))))
def oY(T:h!):Dy P w K mg base 1 t.B5 "holds" U! (Hk t):=
 cF (h2:=[]) (k:=0) T.U0 T.E7 a1a (λhr=>(aG (bR (a1z t7! (wA (jW b4_ eS w_ c9_ rfl))))))
def vS(T:h!):Dy P w K mg base 2 t.B4 "cut" lF! (Jf t):=
 cF (h2:=[]) (k:=1) T.T9 T.J1 hV (λhr=>(aE (cN (rG (fP m7!)) (aG a1x) cB) (aG (eM HV rfl (rH (b5t rfl T.Q8 a3_ (aT aN bI a3_ aD!))) (bD (i:=4) hV.nd rfl a_) (dA 4) (aE (aW (i:=5) hV.nd rfl a_ (aC (aT aN bI (dS aj_ dY c3_) (cV (aD by! aK))))) (aG (cN (fP (bW (oY T) e! ug_ (aF i1! aO))) (aG (dD x_ (bE T.T9 T.U8 k_) i1! iM_)) cB)))))))
def mK(T:h!):Vv P w K mg base 1 "Row" t.B5 aQ_ (Hj t):=
 a1s (h2:=[]) (k:=0) T.E6 b4h (λhr=>(aE (fQ T.U0 T.U1 k_ uk!) (aG (fQ T.U0 T.U2 k_ uk!))))
def xW(T:h!):Vv P w K mg base 3 "Outline" t.B4 aQ_ (Hy t):=
 a1s (h2:=[]) (k:=2) T.F8 xR (λhr=>(aE (fQ T.T9 T.U3 k_ (pJ x_ (gW aS_ cu_ (gW aS_ cu_ vW)))) (aE (fQ T.T9 T.U4 k_ (pJ x_ (gW aS_ i5_ (gW aS_ i5_ vW)))) (aE (fQ T.T9 T.U5 k_ eY) (aE (fQ T.T9 T.U6 k_ eY) (aE (fQ T.T9 T.U7 k_ eY) (aG (fQ T.T9 T.U8 k_ eY))))))))
def fN(T:h!):Dy P w K mg base 2 t.B5 "put_behind" lD_ (Cs t):=
 cF (h2:=[]) (k:=1) T.U0 T.E8 fL (λhr=>(aE (aW (i:=3) fL.nd rfl a_ (c5v (fP (bW (oY T) e! k_ dS_)) Q! cu_)) (aE (aW (i:=4) fL.nd rfl a_ (bU P! bF c9_ av! r_)) (aE (dD x_ c9_ av! w_) (aE (dD x_ i6! w_ av!) (aE (dD x_ c9_ w_ aE!) (aG (dD x_ i6! aE! w_))))))))
def tR(T:h!):Dy P w K mg base 1 t.B5 "take_out" U! (Ip t):=
 cF (h2:=[]) (k:=0) T.U0 T.E9 gL (λhr=>(aE (aW (i:=2) gL.nd rfl a_ (b9e x_ i6! w_ c4!)) (aE (aW (i:=3) gL.nd rfl a_ (b9e x_ c9_ w_ c4!)) (aE (dD x_ c9_ Q! av!) (aG (dD x_ i6! av! Q!))))))
def kN(T:h!):Dy P w K mg base 3 t.B4 "move" cT_ (Gh t):=
 cF (h2:=[]) (k:=2) T.T9 T.H9 tM (λhr=>(aE (cN (rG (fP (bW (mX T) e! k_ (aF w_ dS_)))) (aG a1x) cB) (aE (cI (bW (tR T) e! (bU P! bF eV_ t6! r_) cw_)) (aE (cI (bW (fN T) e! (bU P! bF eV_ Q! r_) mV_)) (aG (dD x_ m6_ w_ Q!))))))
def kR(T:h!):Dy P w K mg base 1 t.B4 "numbers_of" aR! (Cz t):=
 cF (h2:=[]) (k:=0) T.T9 T.J6 kP (λhr=>(aG (bR (zL a4f c5b rfl T.Q6 b3p (aF uv! aO)))))
def vR(T:h!):Dy P w K mg base 3 t.B4 "put" cT_ (Je t):=
 cF (h2:=[]) (k:=2) T.T9 T.G8 kU (λhr=>(aE (aW (i:=4) kU.nd rfl a_ (c5v (fP t8_) Q! aS_)) (aE (dD x_ m6_ w_ aE!) (aE (cI (bW (fN T) e! (bU P! bF eV_ aE! r_) mV_)) (aE (dD x_ eV_ w_ i5_) (aE (dD x_ i3_ w_ i5_) (aG (dD x_ uu! w_ (c3l iO_ (aC (gK T.S0 rfl)))))))))))
def kQ(T:h!):Dy P w K mg base 2 t.B4 "set_number" fX_ (Ex t):=
 cF (h2:=[]) (k:=1) T.T9 T.J2 kO (λhr=>(aG (cN (fP m7!) (aG (dD x_ uv! Q! av!)) cB)))
def mW(T:h!):Dy P w K mg base 2 t.B4 "signs_of" aR! (Do t):=
 cF (h2:=[]) (k:=1) T.T9 T.J4 mT (λhr=>(aG (bR (jV (NL:=[ar!]) (NF:=aQ_) (ix:=[0]) rfl c! n_ (bV (sc:=Ae Fc) rfl n_) nc! c! rfl (eI (a6k (nE T) e! ug_)) uC_ aL_ (λ_ _ _ _ _=>sL (eG iU! eS k_ (bE T.T9 T.U8 w_) rfl)) mI!))))
def nU(T:h!):Dy P w K mg base 3 t.B4 "text_of" aR! (Es t):=
 cF (h2:=[]) (k:=2) T.T9 T.J5 nL (λhr=>(aG (bR (b2r (jV (NL:=[ar!]) (NF:=aQ_) (ix:=[0]) rfl c! n_ (bV (sc:=Ae Fp) rfl n_) nc! c! rfl (eI (bW (mW T) e! k_ cw_)) uC_ aL_ gr_ (λ_ _ _ _ _=>(bU P! bF (bE T.T9 T.U7 w_) k_ r_)))))))
def rB(T:h!):Dy P w K mg base 3 t.B4 "write" lE_ (Hq t):=
 cF (h2:=[]) (k:=2) T.T9 T.J0 dL (λhr=>(aE (cN (rG (fP (bW (dU T) e! k_ dS_))) (aG a1x) cB) (aE (aW (i:=5) dL.nd rfl a_ av!) (aG (eM HV rfl (rH (c0v rfl T.Q0 by!)) (a1i rfl (gE (bD (i:=6) dL.nd rfl a_) (gE (bD (i:=7) dL.nd rfl a_) uA))) (c0f 6 7) (aE (aW (i:=8) dL.nd rfl a_ (aC (aT aN bI V! (cV mG!)))) (aE (cI (bW (fN T) e! (bU P! bF i3_ Q! r_) (aF (aC b4!) (aF i1! aO)))) (aE (dD x_ (bE T.T9 T.U7 k_) (aC b4!) (aC cv_)) (aG (aW (i:=5) dL.nd rfl a_ (aC b4!)))))))))))
def zG(T:h!):Mu P w K mg base 1 "accept" as! (Ll t):=
 cJ (h2:=[]) (k:=0) T.M6 b4g (λhr=>(aE (cI (uE (zK x_ eK! gp_ (pH aO) c4!) w_)) sp_))
def nT(T:h!):Mu P w K mg base 2 "is_next" as! (Gw t):=
 cJ (h2:=[]) (k:=1) T.L5 a8w (λhr=>(aG (bR (jW aC_ i8! gp_ (sM aN iM uH_ au_) v!))))
def oX(T:h!):Mu P w K mg base 3 "accept_waiting" aR_ (Ee t):=
 cJ (h2:=[]) (k:=2) T.M7 dP (λhr=>(aE (aW (i:=1) dP.nd rfl a_ au_) (aE uJ_ (aE (iF HV (eX (bM b8j b8l (cC cO eO rfl T.Q5 eA eN!) aB v!)) (aE jF (aE (cI (aU (zG T) e! rfl (aF k_ iP_))) (aE (b9a (i:=1) dP.nd rfl a_ au_) (aG uJ_))))) dR_))))
def qY(T:h!):Ok P w K mg base 1 "time_and_hand" bG! (Df):=
 eB (h2:=[]) (k:=0) T.E4 qP (λhr=>(bA (bO sD!)))
def lE(T:h!):Ok P w K mg base 4 "in_order" aY_ (Dh):=
 eB (h2:=[]) (k:=3) T.E5 a5c (λhr=>(bA (bO (c0w (qY T) (Ak.in1 (Ak.in1 e!)) rfl rfl T.R0 E!))))
def a1q(T:h!):Mu P w K mg base 5 "all_taken" aR_ (Ew t):=
 cJ (h2:=[]) (k:=4) T.K8 jN (λhr=>(aE (a9x (lW (i:=1) jN.nd rfl a_ aK)) (aE (eM HV rfl (c7x eK!) (bD (i:=2) jN.nd rfl a_) (dA 2) (aG (b5e (i:=1) c! (bU P! bF eK! Q! r_)))) (oZ (aG (bR (aC (aR (lE T) e! rfl eL! aL!))))))))
def a1n(T:h!):Ok P w K mg base 6 "are_parts" fV! (Hi t):=
 eB (h2:=[]) (k:=5) T.E1 a0z (λhr=>(aZ (gH (bM zD zF gd! tz_ v!) eH! dR) (bA (bO (cC iC! a4d rfl T.P8 a4g (aD (kH (NL:=uM_) (NF:=[]) (ix:=[]) rfl c! n_ (bV (sc:=Ae Jt) rfl n_) Dq.nil c! rfl (c8v rfl T.R7 c9k V! E!) (λ_ _ _ _ _=>a1i rfl (gE (bD (i:=0) uO! rfl a_) (gE (bD (i:=1) uO! rfl a_) uA))) ng_ eJ_ (λ_ _ _ _ _=>(c0x (j:=0) (n:=1) (c4j T) e! eL! aL!))) aK))))))
def a9q(T:h!):Ok P w K mg base 7 "is_deed" p_ (Ib t):=
 eB (h2:=[]) (k:=6) T.E2 a8z (λhr=>(aZ (gH (tT (xA zw_ (oG (bM aC_ bZ gd! aB v!)))) eH! dR) (aZ (gH (tT (xA (fR (eU (iK uH rfl T.Q4 rfl T.R4 cH sD a2!))) (oG (b5r uP! rfl a2!)))) eH! dR) (aZ (gH (fR (eU (aR (a1n T) e! rfl (aD (dS E! c3_ dY) (aD (c4u uP! rfl a2! r_) aK)) aC!))) eH! dR) (bA (bO (zZ (fI zD zF a2! aP v!) (gQ (fI kZ lA (aT aN bI mC! a2!) mn! v!)))))))))
def tQ(T:h!):Ok P w K mg base 8 "is_operation" p_ (Bv t):=
 eB (h2:=[]) (k:=7) T.E3 tL (λhr=>(aZ mm! (bA (bO (kI sc! (kI sb! (gQ (aR (a9q T) e! rfl mm_ aL!))))))))
def oW(T:h!):Mu P w K mg base 2 "was_taken" as! (Fv t):=
 cJ (h2:=[]) (k:=1) T.L0 a0v (λhr=>(aG (bR (jW kZ (Ic.m lA) gp_ uH_ v!))))
def qZ(T:h!):Mu P w K mg base 3 "not_yet_taken" bH! (Dg t):=
 cJ (h2:=[]) (k:=2) T.L7 dJ (λhr=>(aE (aW (i:=2) dJ.nd rfl a_ eY) (aE (eM HV rfl (eI (sM aN iM gz! w_)) (bD (i:=3) dJ.nd rfl a_) eU! (aE (aW (i:=4) dJ.nd rfl a_ ni_) (aE (cN (fP (aU (oW T) e! rfl (aF k_ iN_))) (aG (aW (i:=5) dJ.nd rfl a_ (bU P! bF (bU P! bF eK! (aC nj!) r_) (aC (aT nR nV nj! aB)) r_))) (aG (cN (eG aC_ i8! (aC nj!) (bE T.T8 T.U9 k_) v!) gA! (aG (aW (i:=5) dJ.nd rfl a_ (zK x_ Q! aE! av! c4!)))))) (aG (cN (eX (bM eP! rC ak! aD! v!)) gA! cB))))) jg!)))
def a1l(T:h!):Mu P w K mg base 2 "last_time" fZ_ (Hh t):=
 cJ (h2:=[]) (k:=1) T.L6 a0x (λhr=>(aE (cN (eG aC_ i8! (bW (jQ T) e! k_ cw_) au_ v!) (aG (bR au_)) cB) (aG (bR (bU P! bF (bU P! bF (bU P! bF eK! w_ r_) (aC (c9c aB)) r_) au_ r_)))))
def vQ(T:h!):Mu P w K mg base 3 "check_times" lH_ (Hb t):=
 cJ (h2:=[]) (k:=2) T.L8 fK (λhr=>(aE (aW (i:=2) fK.nd rfl a_ eY) (aG (eM HV rfl (eI (pK (yN rfl) c1d rfl T.R0 a0e cw_)) (bD (i:=3) fK.nd rfl a_) eU! (aE (aW (i:=4) fK.nd rfl a_ (bU P! bF (bU P! bF w_ av! r_) au_ r_)) (aE (cN (eG kZ (Ic.m lA) aE! (wB x_ Q! gp! (aU (a1l T) e! rfl (aF k_ (aF gp! aO))) c4!) v!) gA! cB) (aG (dD x_ Q! gp! aE!))))))))
def rA(T:h!):Mu P w K mg base 9 "check_message" bH! (Fm t):=
 cJ (h2:=[]) (k:=8) T.L9 qQ (λhr=>(aE (cN (eX (fR (eU (cC iC! a4d rfl T.P8 a4g (aD (kH (NL:=p_) (NF:=[]) (ix:=[]) rfl c! n_ (bV (sc:=Ae Gu) rfl n_) Dq.nil c! rfl (fS V!) (λ_ _ _ _ _=>bD (i:=0) (show(p_:List Str).Nodup by decide+kernel) rfl a_) aL_ eJ_ (λ_ _ _ _ _=>(aR (tQ T) e! rfl b2! aL!))) aK))))) gA! cB) (aG (cI (aU (vQ T) e! rfl (aF k_ (aF (aU (qZ T) e! rfl c7_) aO)))))))
def iB(T:h!):Ok P w K mg base 1 "is_undo_or_redo" bG! (Az):=
 eB (h2:=[]) (k:=0) T.J7 nK (λhr=>(bA (bO (zZ uV! (gQ uV!)))))
def xU(T:h!):Mu P w K mg base 5 "last_words" aY_ (Gg):=
 cJ (h2:=[]) (k:=4) T.J8 iR (λhr=>(aE (aW (i:=1) iR.nd rfl a_ eY) (aE (eM HV rfl uW! (bD (i:=2) iR.nd rfl a_) (dA 2) (aG (cN (eX (eU (aR (iB T) e! rfl eN! aL!))) (aG (dD x_ w_ iX! iX!)) cB))) dR_)))
def a9m(T:h!):Mu P w K mg base 4 "line_of" lK! (Ls t):=
 cJ (h2:=[]) (k:=3) T.N5 uZ (λhr=>(aE (mN (i:=3) (NL:=uX_) (NF:=[]) (ix:=[]) uZ.nd rfl a_ rfl c! n_ (bV (sc:=Ae Mw) rfl n_) Dq.nil c! rfl (c7w rfl T.Q0 (bW (kR T) e! k_ dS_)) (λ_ _ _ _ _=>a1i rfl (gE (bD (i:=0) uY! rfl a_) (gE (bD (i:=1) uY! rfl a_) uA))) ng_ (λ_ _ _ _ _=>sL (eX (bM eP! rC V! aB v!))) (λ_ _ _ _ _=>(aC (c4v E! V!)))) (aG (bR (sM aN iM (sM aN iM (aC (aT b2g b2l aP (aT nR nV V! aB))) (bW (nU T) e! k_ dS_)) (aC (b3j aP aD!)))))))
def b4t(T:h!):Mu P w K mg base 6 "undone" aY_ (Lk):=
 cJ (h2:=[]) (k:=5) T.J9 jA (λhr=>(aE (aW (i:=1) jA.nd rfl a_ (aU (xU T) e! rfl c7!)) (aE (aW (i:=2) jA.nd rfl a_ eY) (aE (eM HV rfl (rH iF!) (bD (i:=3) jA.nd rfl a_) eU! (aE (aW (i:=4) jA.nd rfl a_ ni_) (aG (cN (a6f (nW (eX (fR (eU (aR (iB T) e! rfl mD! aL!)))) (jR (eG aC_ i8! (b9f x_ w_ aE! c4!) aS_ v!)))) (aG (dD x_ Q! aE! iM_)) cB)))) jg!))))
def c3h(T:h!):Mu P w K mg base 4 "play" fY! (Nc t):=
 cJ (h2:=[]) (k:=3) T.K0 c2i (λhr=>(aG (cN b5_ (aG (cI (bW (vR T) e! k_ (aF w_ (aF by_ iP_))))) (aG (cN b5_ (aG (cI (bW (kN T) e! k_ gq!))) (aG (cN b5_ (aG (cI (bW (kN T) e! k_ tj_))) (aG (cN b5_ (aG (cI (bW (rB T) e! k_ (aF w_ gq!)))) (aG (cN b5_ (aG (cI (bW (vS T) e! k_ gq!))) (aG (cN b5_ (aG (cI (bW (kQ T) e! k_ gq!))) cB)))))))))))))
def b4u(T:h!):Mu P w K mg base 7 "played" aY_ (Im t):=
 cJ (h2:=[]) (k:=6) T.K4 jB (λhr=>(aE (aW (i:=1) jB.nd rfl a_ (lH (xW T) e! rfl)) (aE (aW (i:=2) jB.nd rfl a_ (aU (b4t T) e! rfl c7!)) (aE (eM HV rfl uW! (bD (i:=3) jB.nd rfl a_) eU! (aE (aW (i:=4) jB.nd rfl a_ ni_) (aG (cN (eG iU! eS aE! Q! rfl) (aG (cI (aU (c3h T) e! rfl (aF w_ (aF aE! (aF gp! aO)))))) cB)))) dR_))))
def nA(T:h!):Mu P w K mg base 8 "outline_of" aR_ (En t):=
 cJ (h2:=[]) (k:=7) T.K9 xP (λhr=>(aE (cN (eG a9j (Ic.m a9t) u6! cu_ v!) (aG (fQ T.T8 T.V3 k_ (aU (b4u T) e! rfl (aF (aU (a1q T) e! rfl c7!) aO)))) cB) (aG (bR u6!))))
def tN(T:h!):Mu P w K mg base 9 "outline_with" lI_ (Gf t):=
 cJ (h2:=[]) (k:=8) T.N3 kK (λhr=>(aE (aW (i:=2) kK.nd rfl a_ u8!) (aE (cN (rG (fP (bW (iE T) e! Q! cw_))) gA! cB) jg!)))
def b8n(T:h!):Mu P w K mg base 10 "pages" lJ_ (Pn t):=
 cJ (h2:=[]) (k:=9) T.N4 jC (λhr=>(aE (aW (i:=2) jC.nd rfl a_ (aU (tN T) e! rfl c7_)) (aE (a9x (lW (i:=3) jC.nd rfl a_ aK)) (aE (aW (i:=4) jC.nd rfl a_ (pH (aF (aC (cV (aD aB eL!))) aO))) (aE (iF HV (eG b8j (Ic.m b8l) (pK cO b0x rfl T.Q5 eA (aF aE! aO)) au_ v!) (aE (aW (i:=5) jC.nd rfl a_ (c3m aE!)) (aE (a9x (mS (i:=3) c! ak!)) (aG (eM HV rfl (c7v rfl T.Q9 (bW (jP T) e! Q! (aF (aC vb!) aO))) (bD (i:=6) jC.nd rfl a_) (dA 6) (aG (cI (uE aE! (aC (cV (aD (aT aN bI vb! aB) mG!))))))))))) (oZ (aG (bR av!))))))))
def a9l(T:h!):Mu P w K mg base 4 "receive" as! (Jo t):=
 cJ (h2:=[]) (k:=3) T.M9 uY (λhr=>(aE (cN (fP (aU (nT T) e! rfl c7_)) (aE (cI (aU (zG T) e! rfl c7_)) (aG (bR (sM aN iM au_ (aU (oX T) e! rfl c7!))))) cB) (aE (aW (i:=2) uY.nd rfl a_ (c5u (aU (oW T) e! rfl c7_) (wA (jW b4_ eS w_ gz! rfl)))) (aE (cN (a6f (nW (eX (fR (eU aj_))) (jR (eG b2h (Ic.m b2k) (pK cO b0x rfl T.Q5 eA (aF gz! aO)) (aC (gK T.S8 rfl)) v!)))) (aG (cI (uE gz! w_))) cB) (aG (bR au_))))))
def b8m(T:h!):Mu P w K mg base 11 "shown" aR_ (Pm t):=
 cJ (h2:=[]) (k:=10) T.N6 a4y (λhr=>(aE (aW (i:=1) a4y.nd rfl bl_ u8!) (aG (bR (jV (NL:=[h4!,aI_]) (NF:=[bX!]) (ix:=[1]) rfl c! n_ (bV (sc:=Ae Ps) rfl n_) iD_ c! rfl (eI (b9d (aU (b8n T) e! rfl (aF k_ (aF aS_ aO))) c3_ dY)) (λ_ _ _ _ _=>a1i rfl (gE (bD (i:=0) ve! rfl a_) (gE (bD (i:=1) ve! rfl a_) uA))) ng_ gr_ (λ_ _ _ _ _=>(aU (a9m T) e! rfl (aF Q! c7_))))))))
def c3g(T:h!):Mu P w K mg base 10 "take" bH! (Sl t):=
 cJ (h2:=[]) (k:=9) T.N0 tW (λhr=>(aE (cI (aU (rA T) e! rfl c7_)) (aE (aW (i:=2) tW.nd rfl a_ au_) (aE (eM HV rfl (rH (fS V!)) (bD (i:=3) tW.nd rfl a_) eU! (aG (b9a (i:=2) tW.nd rfl a_ (aU (a9l T) e! rfl (aF k_ iN_))))) jg!))))
end
def Yn(K:zT!):Sp:=λvs H Q E=>∀(P:xR!) (w:xM!) (t:Aw),t.nd->Xc P w K 1 (Yu t) vs H Q E
section
variable{P:xR!}{w:xM!}{K:zT!}{mg:Str->Option Value}{h:Heap}
def c9q(gb:mg "law"=some e1_)(dl:Zw K mg "law" Rx [bH_])(T:Txt P w K mg jq!)(nd:Aw.nd jq!):
  ∃fd:FuncData,(∀(s:zS!) (u:xL!),BindsTo s fd jh! [("_law_script",u)])/\∀base:Heap,K.In base->base.Ns mainGlobals mg->Fk P w K mg base Pk 23 fa fd [bH_] (Yn K):=by
 obtain⟨fd,B,Y⟩:=c3t (h2:=[]) (k:=22) (P:=P) (w:=w) (q:=Yr jq!) dl a0w gb (λbase σ ae A outer s H E hr=>(aE (aW (i:=1) a0w.nd rfl a_ (aC (aR (b4v T) e! rfl (aD E! (aD aB (aD (aT fD fE (aR (fY T) e! rfl (aD E! mY_) aC!) aB) aK))) (aM aC!))))
   (aE (aW (i:=2) a0w.nd rfl a_ (c3n (a9s T) e! rfl iO_))
   (aE (cI (aU (c3g T) e! rfl mL!))
   (aE (aW (i:=3) a0w.nd rfl a_ (aU (b8m T) e! rfl dS_))
   (aE (cN (eX (tT (xA (fR (eU (iK b9y rfl T.Q4 rfl T.Q6 cH b3p aD!))) (oG (fR (eU (cC iC! a4d rfl T.P8 a4g (aD (kH (NL:=[lR_]) (NF:=[]) (ix:=[]) rfl c! n_ (bV (sc:=Ae Rx) rfl n_) Dq.nil c! rfl (fS aD!) (λ_ _ _ _ _=>bD (i:=0) (show([lR_]:List Str).Nodup by decide+kernel) rfl a_) aL_ eJ_ (λ_ _ _ _ _=>sj!)) aK)))))))) mJ_ cB)
   (aG (bR (jW aC_ c7k av! (aU (g:=Hz 20) (ps:=f1_) (a5w T 20) e! rfl (aF (aU (b8p T) e! rfl cw_) (aF aS_ iO_))) v!)))))))))
 exact⟨fd,B,λbase i g=>(Y base i g).imp λvs H Q E z=>z P w _ nd⟩
def b5o{ad:xh!}{k3:Tok}{o0 o1 o2 o3 o4 o5 o6 o7:a4_}{n0 n1 n2 n3 n4 n5 n6 n7 ep:Nat}{s0 s1 s2 s3 s4 s5 s6 s7:b6!}(X:fl!)(G:fl_)
  (ga:W.nsIn K mainGlobals "PARTS"=some (some j4!))(gl:K.lookup ad=some {cls:=.type "dict",data:=.dict #[⟨PyData.keyHash w.params "put",.str "put" k0,.ref r0⟩,⟨PyData.keyHash w.params "move",.str "move" k1,.ref r1⟩,⟨PyData.keyHash w.params "drop",.str "drop" k2,.ref r2⟩,⟨PyData.keyHash w.params "write",.str "write" k3,.ref r3⟩,⟨PyData.keyHash w.params "cut",.str "cut" k4,.ref r4⟩,⟨PyData.keyHash w.params "set",.str "set" k5,.ref r5⟩,⟨PyData.keyHash w.params "undo",.str "undo" k6,.ref r6⟩,⟨PyData.keyHash w.params "redo",.str "redo" k7,.ref r7⟩] ep})(gs:ot!=false)
  (l0:K.lookup r0=some ⟨cK!,o0,.seq #[.ref B6,.ref B7] n0,s0⟩)
  (l1:K.lookup r1=some ⟨cK!,o1,.seq #[.ref B6,.ref B6,.ref B7] n1,s1⟩)
  (l2:K.lookup r2=some ⟨cK!,o2,.seq #[.ref B6] n2,s2⟩)
  (l3:K.lookup r3=some ⟨cK!,o3,.seq #[.ref B6,.ref B8,.ref B9] n3,s3⟩)
  (l4:K.lookup r4=some ⟨cK!,o4,.seq #[.ref B6,.ref C0,.ref C1] n4,s4⟩)
  (l5:K.lookup r5=some ⟨cK!,o5,.seq #[.ref B6,.ref C2,.ref C3] n5,s5⟩)
  (l6:K.lookup r6=some ⟨cK!,o6,.seq #[.ref C4] n6,s6⟩)
  (l7:K.lookup r7=some ⟨cK!,o7,.seq #[.ref C4] n7,s7⟩)
  :∀X:Cx,X.prog=P->X.w=w->X.K=K->X.mg=mg->Ub X "PARTS" (Ia jq!):=λvm e1 e2 e3 e4=>
 c0g (rows:=[("put",k0,r0),("move",k1,r1),("drop",k2,r2),("write",k3,r3),("cut",k4,r4),("set",k5,r5),("undo",k6,r6),("redo",k7,r7)]) (w:=w) e2 e3 e4 (eR X G ga) gs gl (show(["put","move","drop","write","cut","set","undo","redo"]:List Str).Nodup by decide+kernel) ⟨rfl,gC (fs:=[B6,B7]) l0 (by show 2<=1000;decide),rfl,gC (fs:=[B6,B6,B7]) l1 jr_,rfl,gC (fs:=[B6]) l2 nD!,rfl,gC (fs:=[B6,B8,B9]) l3 jr_,rfl,gC (fs:=[B6,C0,C1]) l4 jr_,rfl,gC (fs:=[B6,C2,C3]) l5 jr_,rfl,gC (fs:=[C4]) l6 nD!,rfl,gC (fs:=[C4]) l7 nD!,trivial⟩
end
end K26
open PySem PySem.W PyProof.Rows
set_option maxRecDepth 100000 in
set_option maxHeartbeats 0 in
theorem PySem.Challenge.cw_manyhands_k26_lines_of_it_holds : PySem.Challenge.rw_manyhands_k26_lines_of_it.Holds := by
 w_on;o_law;k_head;(case hw=>w_witness2)
 k_fill
 refine L2.b6d (l:=PySem.Challenge.rw_manyhands_k26_lines_of_it) (n:=63) (k:=23) (x:="_law_script") (CX:=L2.Pk) (sp:=K26.Yn) rfl (by decide) rfl ⟨rfl,by decide,by decide⟩ (λw h Y=>W.kIn_of Y) ?F (λK H a ns hl _ hS P w t nd=>DL.c3s hS (K26.b9l nd)) (λ_ _ _ _ z=>z)
 case F=>
  intro w mg fa h KX G hmg;refine' K26.c9q hmg ?dl ⟨?C8,?C9,?D1,?D2,?D3,?D4,?D5,?D6,?D7,?D8,?D9,?E1,?E2,?E3,?E4,?E5,?E6,?E7,?E8,?E9,?F7,?F8,?F9,?G6,?G7,?G8,?G9,?H9,?J0,?J1,?J2,?J3,?J4,?J5,?J6,?J7,?J8,?J9,?K0,?K4,?K6,?K7,?K8,?K9,?L0,?L5,?L6,?L7,?L8,?L9,?M6,?M7,?M9,?N0,?N3,?N4,?N5,?N6,?N7,?N8,?N9,?O0,?O1,?O2,?O3,?O4,?O5,?O6,?O7,?O8,?O9,?P0,?P1,?P3,?P4,?P5,?P6,?P7,?P8,?P9,?Q0,?Q3,?Q4,?Q5,?Q6,?Q7,?Q8,?Q9,?R0,?R4,?R6,?R7,?R8,?R9,?S0,?S7,?S8,?S9,?T0,?T1,?T2,?T3,?T4,?T5,?T6,?T7,?T8,?T9,?U0,?U1,?U2,?U3,?U4,?U5,?U6,?U7,?U8,?U9,?V0,?V2,?V3,?gp⟩ ?nd
  (case E6=>show"!!")
  (case F8=>show"!!")
  (case K6=>(dsimp only;refine' DL.b9b (DL.eR KX G ?g) ?a ?i ?l ?c ?k ?mm ?kc ?b;(case g=>k_is);(case a=>k_is);(case i=>k_is);(case l=>k_is);(case c=>k_is);(case k=>k_is);(case mm=>k_is);(case kc=>k_is);(case b=>exact λ_ _ _ _ _ _=>DL.oN λ_ _=>rfl)))
  (case C8=>show"!#")
  (case C9=>show"!$")
  (case D1=>show"!#")
  (case D2=>show"!#")
  (case D3=>show"!#")
  (case D4=>show"!#")
  (case D5=>show"!#")
  (case D6=>show"!#")
  (case D7=>show"!#")
  (case D8=>show"!#")
  (case D9=>show"!#")
  (case E1=>show"!$")
  (case E2=>show"!#")
  (case E3=>show"!#")
  (case E4=>show"!#")
  (case E5=>show"!#")
  (case E7=>show"!%")
  (case E8=>show"!&")
  (case E9=>show"!%")
  (case F7=>(dsimp only;refine' DL.dO ?a ?i ?l ?c ?k ?b;(case a=>k_is);(case i=>k_is);(case l=>k_is);(case c=>k_is);(case k=>k_is);(case b=>exact λ_ _ _ _ _ _=>DL.mY λ_=>rfl)))
  (case F9=>show"!%")
  (case G6=>show"!%")
  (case G7=>show"!&")
  (case G8=>show"!'")
  (case G9=>show"!&")
  (case H9=>show"!'")
  (case J0=>(dsimp only;refine' DL.dO ?a ?i ?l ?c ?k ?b;(case a=>k_is);(case i=>k_is);(case l=>k_is);(case c=>k_is);(case k=>k_is);(case b=>exact λ_ _ _ _ _ _=>DL.us5 λ_ _ _ _ _=>rfl)))
  (case J1=>show"!'")
  (case J2=>show"!'")
  (case J3=>show"!%")
  (case J4=>show"!%")
  (case J5=>show"!%")
  (case J6=>show"!%")
  (case J7=>show"!#")
  (case J8=>show"!#")
  (case J9=>show"!#")
  (case K0=>show"!(")
  (case K4=>show"!#")
  (case K7=>show"!%")
  (case K8=>show"!#")
  (case K9=>show"!#")
  (case L0=>show"!$")
  (case L5=>show"!$")
  (case L6=>show"!$")
  (case L7=>show"!$")
  (case L8=>show"!$")
  (case L9=>show"!$")
  (case M6=>show"!$")
  (case M7=>show"!#")
  (case M9=>show"!$")
  (case N0=>show"!$")
  (case N3=>show"!$")
  (case N4=>show"!$")
  (case N5=>show"!(")
  (case N6=>show"!#")
  (case N7=>show"!$")
  (case N8=>show"!$")
  (case N9=>show"!#")
  (case O0=>show"!#")
  (case O1=>show"!$")
  (case O2=>show"!$")
  (case O3=>show"!)")
  (case O4=>show"!(")
  (case O5=>show"!#")
  (case O6=>show"!#")
  (case O7=>show"!)")
  (case O8=>show"!(")
  (case O9=>show"!)")
  (case P0=>show"!$")
  (case P1=>show"!#")
  (case P3=>show"!$")
  (case P4=>show"!$")
  (case P5=>show"!(")
  (case P6=>show"!#")
  (case dl=>(refine' DL.c4q KX G ?a ?l ?c ?k ?b;(case a=>k_is);(case l=>k_is);(case c=>k_is);(case k=>k_is);(case b=>exact λ_ _ _ _ _ _=>DL.mY λ_=>rfl)))
  (case P7=>show"!*")
  (case P8=>show"!*")
  (case P9=>show"!*")
  (case Q0=>show"!*")
  (case Q3=>show"!*")
  (case Q4=>show"!*")
  (case Q5=>show"!*")
  (case Q6=>show"!*")
  (case Q7=>show"!*")
  (case Q8=>show"!*")
  (case Q9=>show"!*")
  (case R0=>show"!*")
  (case R4=>show"!*")
  (case R6=>show"!*")
  (case R7=>show"!*")
  (case R8=>show"!+")
  (case R9=>show"!+")
  (case S0=>show"!+")
  (case S7=>show"!+")
  (case S8=>show"!+")
  (case S9=>show"!,")
  (case T0=>show"!,")
  (case T1=>show"!,")
  (case T2=>show"!,")
  (case T3=>show"!,")
  (case T4=>show"!,")
  (case T5=>show"!,")
  (case T6=>show"!,")
  (case T7=>show"!,")
  (case T8=>show"!-")
  (case T9=>show"!-")
  (case U0=>show"!-")
  (case U1=>show"!.")
  (case U2=>show"!.")
  (case U3=>show"!.")
  (case U4=>show"!.")
  (case U5=>show"!.")
  (case U6=>show"!.")
  (case U7=>show"!.")
  (case U8=>show"!.")
  (case U9=>show"!.")
  (case V0=>show"!.")
  (case V2=>show"!.")
  (case V3=>show"!.")
  (case gp=>(refine' K26.b5o KX G ?ga ?gl ?gs ?l0 ?l1 ?l2 ?l3 ?l4 ?l5 ?l6 ?l7;(case ga=>k_is);(case gl=>k_is);(case gs=>decide);(case l0=>k_is);(case l1=>k_is);(case l2=>k_is);(case l3=>k_is);(case l4=>k_is);(case l5=>k_is);(case l6=>k_is);(case l7=>k_is)))
  (case nd=>(unfold K26.Aw.nd;decide))
