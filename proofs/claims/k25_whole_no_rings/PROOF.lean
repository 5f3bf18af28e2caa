import PyProof.Rows.All
import Wide.All
import OpenK.AllK
import Wide.FinOn
import Lean
import PyProof.EqAt
import PyProof.EqKinds
import PyProof.TupleCall
import KE.KIntText
import PyProof.Rows.SortShell
import PyProof.Rows.CallKwBuiltin
import KE.KSortKey
import KE.KDictSum
import KE.KRevIter
import PyProof.ExcBaseAll.ValueError
import PyProof.ReprRoads
import PyProof.DictTruth
import PyProof.Rows.SeqRoads
import PySem.Challenge.RW_manyhands_k25_whole_no_rings
set_option linter.all false
set_option genSizeOf false
set_option Elab.async false
set_option maxRecDepth 100000
set_option maxHeartbeats 4000000
def GM:=@PySem.wpAny_bind
def GN:=@Option.bind_eq_some_iff
def GO:=@PySem.wpAny_pure
def GP:=@List.mem_cons_of_mem
def GQ:=@PySem.Heap.get?_push_of_some
def GR:=@List.mem_cons
def GS:=@if_neg
def GT:=@Ne.symm
def GU:=@Option.map_eq_some_iff
def GV:=@List.mem_map_of_mem
def GW:=@List.size_toArray
def GX:=@List.mem_cons_self
def GY:=@List.map_cons
def GZ:=@List.mem_append
def HA:=@List.length_cons
def HB:=@if_pos
def HC:=@List.getElem?_eq_some_iff
def HD:=@List.mem_append_right
def HE:=@List.length_append
def HF:=@decide_eq_false
def HG:=@List.length_map
def HH:=@List.nodup_cons
def HI:=@List.mem_singleton
def HJ:=@List.getElem?_eq_getElem
def HK:=@List.mem_map
def HL:=@Nat.le_refl
def HM:=@Bool.false_ne_true
def HN:=@PySem.Heap.get?_push_size
def HP:=@Nat.lt_of_lt_of_le
def HQ:=@List.mem_append_left
def HR:=@PySem.Heap.lt_size
def HU:=@List.map_append
def HV:=@List.append_nil
def HX:=@Bool.false_eq_true
def HY:=@decide_eq_true
def HZ:=@Bool.and_eq_true
def IA:=@List.getElem?_set_ne
def IB:=@List.getElem?_map
def IE:=@Nat.le_trans
def IF:=@decide_eq_true_eq
def IG:=@List.nodup_append
def IH:=@PySem.PassesOwn.never
def II:=@Nat.ne_of_lt
def IJ:=@List.not_mem_nil
def IK:=@Array.getElem?_eq_getElem
def IL:=@List.getElem?_set_self
def IM:=@PySem.Heap.get?_update_other
def IN:=@if_false
def IP:=@PySem.wpAny_call_entry
def IQ:=@List.lookup_cons
def IR:=@Option.some.inj
def IS:=@PySem.wpAny_truthy_bool
def IT:=@PySem.wpAny_holding
def IU:=@if_true
def IV:=@List.getElem?_append_right
def IW:=@Nat.lt_succ_self
def IY:=@List.append_assoc
def IZ:=@List.length_singleton
def JA:=@Nat.zero_le
def JB:=@Array.length_toList
def JC:=@PySem.sizeLine_eq
def JD:=@List.map_map
def JE:=@List.getElem?_eq_none
def JF:=@PySem.wpAny_callSpecial?_slot
def JG:=@PyProof.Rows.wpS_bind
def JH:=@PySem.wpAny_mono
def JI:=@List.filter_cons_of_pos
def JJ:=@List.filter_cons_of_neg
def JK:=@PySem.wpAny_field
def JL:=@Array.getElem?_eq_some_iff
def JM:=@List.pairwise_cons
def JN:=@PySem.wpAny_newObj_type
def JO:=@List.nil_append
def JP:=@List.length_zip
def JQ:=@List.getElem?_append_left
def JR:=@List.all_eq_true
def JS:=@List.map_congr_left
def JT:=@List.flatMap_cons
def JU:=@PySem.F.slot_dict_keyiterator_next
def JV:=@PyProof.Rows.callWith_type1
def JW:=@Int.emod_lt_of_pos
def JX:=@PySem.Heap.get?_update_self
def JY:=@List.getElem_mem
def JZ:=@of_decide_eq_true
def KA:=@List.filter_eq_self
def KB:=@Prod.mk.injEq
def KC:=@Bool.not_true
def KD:=@List.length_nil
def KF:=@Bool.eq_iff_iff
def KG:=@PySem.wpAny_dictEntries
def KH:=@PySem.Heap.SameBut.update
def KI:=@Nat.lt_of_le_of_lt
def KJ:=@beq_self_eq_true
def KL:=@or_false
def KM:=@List.getElem?_replicate
def KN:=@PySem.wpAny_rule
def KO:=@PySem.Obj.data_mapFields
def KP:=@PySem.Calls.spliced_cons
def KQ:=@List.length_range
def KR:=@beq_eq_false_iff_ne
def KS:=@PySem.mem_of_lookup
def KU:=@List.replicate_succ
def KW:=@List.length_set
def KY:=@List.forIn_cons
def KZ:=@List.find?_cons
def LA:=@Int.emod_nonneg
def LB:=@PyProof.Rows.wpS_pure
def LC:=@PySem.wpAny_dictEpoch
def LD:=@Nat.lt_or_ge
def LF:=@List.length_replicate
def LG:=@List.getElem?_toArray
def LH:=@List.any_cons
def LI:=@Array.getElem?_toList
def LJ:=@PySem.Calls.callWith_builtin
def LK:=@List.drop_eq_getElem_cons
def LL:=@Int.le_refl
def LM:=@PySem.wpAny_Call_Name_kw
def LN:=@PySem.Paired.length
def LO:=@PySem.Obj.isFreed_of_fields
def LP:=@Int.toNat_natCast
def LQ:=@PySem.F.plainAttrs_list
def LS:=@Bool.and_self
def LU:=@PySem.Calls.evalArgs_plain
def LV:=@Option.bind_some
def LW:=@List.mem_filterMap
def LX:=@PySem.wpAny_typeNameOfWhole_keyiter
def LY:=@Nat.le_of_lt
def LZ:=@List.mem_iff_getElem?
def MB:=@List.mem_filter
def MC:=@List.map_nil
def MD:=@PySem.wpAny_seqItems
def MF:=@PySem.Heap.size_push
def MH:=@beq_iff_eq
def MJ:=@Nat.lt_irrefl
def ML:=@List.flatten_cons
def MM:=@List.all_cons
def MN:=@PySem.Heap.size_after_update
def MO:=@PySem.wpAny_setField_rec
def MQ:=@PySem.F.slot_NoneType_hash
def MU:=@List.mem_of_getElem?
def MV:=@PySem.wpAny_passesOwn
def MX:=@List.nodup_nil
def MY:=@List.cons_append
def MZ:=@List.filterMap_cons
def NA:=@PySem.Calls.spliced_nil
def NB:=@Nat.ne_of_gt
def NC:=@Nat.le_of_eq
def ND:=@PySem.F.slot_tuple_iterator_next
def NE:=@PySem.wpAny_setField
def NG:=@decide_eq_false_iff_not
def NH:=@PySem.F.plainAttrs_dict
def NI:=@List.length_eq_zero_iff
def NJ:=@List.getElem_range
def NK:=@List.take_succ_eq_append_getElem
def NM:=@PySem.wpAny_typeNameOf_keyiter
def NN:=@PyProof.Rows.slot_tuple_getitem
def NO:=@List.filter_congr
def NP:=@List.mem_range
def NQ:=@List.forIn_nil
def NR:=@List.Perm.refl
def NS:=@PySem.F.slot_dict_get
def NT:=@Nat.zero_add
def NU:=@Bool.not_eq_eq_eq_not
def NV:=@not_or
def NW:=@PySem.wpAny_notOrdered_dict
def NX:=@Option.map_some
def NY:=@Nat.le_succ
def NZ:=@List.length_reverse
def OA:=@List.filter_sublist
def OB:=@PyProof.Rows.listUpdate_at
def OC:=@List.nodup_iff_pairwise_ne
def OD:=@of_decide_eq_false
def OE:=@List.zip_cons_cons
def OF:=@PySem.wpAny_attempt
def OG:=@List.pairwise_iff_getElem
def OH:=@Bool.not_false
def OI:=@PySem.wpAny_specialOf
def OJ:=@PySem.wpAny_execs_nil
def OK:=@PySem.slot_dict_contains
def OL:=@PySem.F.args_tuple_add_2
def OM:=@Option.isSome_iff_exists
def ON:=@List.pairwise_map
def OO:=@decide_true
def OP:=@PySem.F.entry_tuple_add
def OQ:=@PySem.codeAny_mono
def OT:=@PySem.SeqAt.EqAt.int_int
def OU:=@List.mem_flatMap
def OV:=@List.length_take
def OX:=@List.length_drop
def OY:=@List.drop_length
def OZ:=@PySem.F.slot_tuple_add
def PB:=@List.take_of_length_le
def PD:=@List.reverse_singleton
def PF:=@PySem.wpAny_Call_method
def PH:=@decide_false
def PJ:=@Nat.not_lt_zero
def PK:=@List.zipIdx_nil
def PL:=@List.length_filter_le
def PM:=@List.filter_map
def PN:=@true_and
def PP:=@PyProof.Rows.get?_update_seq
def PQ:=@PySem.wpAny_standAt
def PR:=@PySem.wpAny_letGo
def PU:=@List.mem_iff_getElem
def PV:=@PySem.wpAny_forIn_list
def PX:=@PySem.F.args_dict_keyiterator_next_1
def PY:=@Bool.and_false
def PZ:=@PyProof.Rows.wpS_forRange
def QA:=@PyProof.Rows.listItems_at
def QB:=@PySem.F.entry_dict_keyiterator_next
def QC:=@PySem.wpAny_loadPart'
def QD:=@PySem.wpAny_isTrue_Compare1
def QE:=@PySem.wpAny_isOneOf_keyiter
def QF:=@List.filter_filter
def QG:=@List.filter_append
def QH:=@PySem.F.slot_zip_next
def QI:=@PySem.call_meets
def QJ:=@PySem.wpAny_updateSeq_pair
def QK:=@PySem.wpAny_updateDictKeys
def QL:=@bne_self_eq_false
def QM:=@List.ext_getElem?
def QN:=@PySem.wpAny_loadPart
def QO:=@PySem.wpAny_fieldsOf
def QP:=@Nat.add_zero
def QQ:=@List.zipIdx_cons
def QR:=@List.filter_cons
def QS:=@List.any_eq_true
def QT:=@PySem.F.slot_dict_setdefault
def QU:=@PySem.wpAny_onRaise
def QV:=@PySem.wpAny_newList
def QW:=@PySem.W.kia_one
def QX:=@List.of_mem_zip
def QY:=@List.cons.injEq
set_option hygiene false
section open Lean
def z'E:Nat->Syntax->String
|0,_=>""
|n+1,s=>match s with
 |.node _ k a=>a.foldl (λr x=>r++z'E n x) s!"n{a.size} {(toString k).replace "Lean.Parser." "~"}\n"
 |.atom _ v=>s!"a{v}\n"
 |.ident _ _ v _=>s!"i{v}\n"
 |_=>"m\n"
def z'D(f:SourceInfo):Nat->List String->Syntax×List String
|n+1,x::l=>let r:=(x.drop 1).toString;match x.front with
 |'n'=>let c:=(r.takeWhile Char.isDigit).toString;let (a,l):=c.toNat!.fold (λ_ _ (a,l)=>let (y,l):=z'D f n l;(a.push y,l)) (#[],l);(.node f ((r.drop (c.length+1)).toString.replace "~" "Lean.Parser.").toName a,l)
 |'a'=>(.atom f r,l)
 |'i'=>(.ident f r.toRawSubstring r.toName [],l)
 |_=>(.missing,l)
|_,l=>(.missing,l)
def z'K:List (String×String):=[("P","n3 ~Term.paren\nn2 ~Term.hygienicLParen\na(\nn1 hygieneInfo\ni[anonymous]"),("D","n1 ~Tactic.tacticSeq\nn1 ~Tactic.tacticSeq1Indented"),("E","n2 ~Term.dotIdent\na."),("A","n2 ~Term.app"),("B","n1 null"),("C","n0 null"),("F","n2 null"),("G","n3 null"),("H","n1 ~Tactic.rcasesPatMed"),("I","n1 ~Tactic.rcasesPat.one"),("J","n2 ~Tactic.rcasesPatLo"),("K","n1 ~Tactic.optConfig"),("L","n4 ~Term.basicFun"),("M","n1 ~Term.hole\na_"),("N","n2 ~Term.byTactic\naby")]
def z'Z(r:SourceInfo)(f:String):Syntax:=(z'D r 999 (((f.takeWhile (·≠'\r')).toString.splitOn "\n").flatMap λs=>match z'K.lookup s with|some x=>x.splitOn "\n"|_=>[s])).1
local macro_rules|`(z [$x,*])=>do let a:=x.getElems;let mut r:="";for i in [0:a.size/2] do {r:=s!"{r}\r{match a[2*i]!.raw.isStrLit? with|some s=>s|_=>a[2*i]!.raw.getId.toString}\r{z'E 999 a[2*i+1]!}"};return (Syntax.mkStrLit (z'K.foldl (λr p=>r.replace (p.2++"\n") (p.1++"\n")) r)).raw
def z't't:String:=z ["pc!",(by simp[Bw,Be,sSeq,Fs,Bv,Cn,Cc,Ev,Dp,Cp,Ls,Ct,fT,Dj,Aa,Fk,f2,Je,Jj,Jf,Nk,Lb,Ce,Dw,f1,Ab,Af,Ft,fC,Fw,Cb,Al,Do,Ef,Bz,Cg,Bk,Ai,Da,Dx,As,Di,En,Bg,Au,At,Bs,Ap,Ci,Lu,Db,HT.sIx,List.getElem?_cons_zero,List.getElem?_cons_succ]),"!7",(by split at e),"!K",(by constructor),"!#",(by refine' DL.bC KX G ?a ?l ?c ?k ?b;(case a=>k_is);(case l=>k_is);(case c=>k_is);(case k=>k_is);(case b=>exact λ_ _ _ _ _ _=>DL.nB λ_=>rfl)),"#;",(by exact this),"!$",(by refine' DL.bC KX G ?a ?l ?c ?k ?b;(case a=>k_is);(case l=>k_is);(case c=>k_is);(case k=>k_is);(case b=>exact λ_ _ _ _ _ _=>DL.qF λ_ _=>rfl)),"!*",(by refine' DL.dJ KX G ?a;(case a=>k_is)),"!1",(by obtain⟨ka,bj⟩:=cH ha),"!.",(by dsimp only;(show W.findIn _ _ _=_);k_is),"!0",(by intro x y dx dy d G H Q sub rx ry e k),"!,",(by dsimp only;refine' DL.eB KX G ?a;(case a=>k_is)),"!d",(by intro z;cases z),"!f",(by by_cases hk:k=d),"!6",(by rename_i h;cases e;subst h),"!>",(by obtain⟨t,rfl⟩:=rx),"!F",(by rename_i hl;cases e),"!G",(by intro O s Z H Q I h),"!/",(by intro X hP hw hK hc i O s Z H E I hf st hg;subst hP hw hK),"!R",(by simp only[GZ,GR,KB]),"!2",(by obtain⟨f0,f1,f2,f3,f4,f5⟩:=hf it c_),"!;",(by obtain⟨x,e1,e⟩:=GN.mp e),"#!",(by simp only[HX,IN]),"!%",(by dsimp only;refine' DL.eA ?a ?i ?l ?c ?k ?b;(case a=>k_is);(case i=>k_is);(case l=>k_is);(case c=>k_is);(case k=>k_is);(case b=>exact λ_ _ _ _ _ _=>DL.qF λ_ _=>rfl)),"!D",(by obtain⟨v,rfl,rv⟩:=eZ r),"#+",(by exact hA.live b Y),"#5",(by simpa using this),"!+",(by refine' DL.pR KX G ?a;(case a=>k_is)),"!8",(by obtain⟨o',e1⟩:=I.base.there b o e hx),"!?",(by obtain⟨its,r,pl,hz⟩:=I.list hq),"!P",(by subst e;exact I1.fpOk x_ (I1.hok.fresh x_)),"!o",(by exact k _ G H aC_ Ar.bl),"!w",(by unfold fT;rw[this];rfl),"#6",(by rw[fD!];exact LL _),"!'",(by dsimp only;refine' DL.eA ?a ?i ?l ?c ?k ?b;(case a=>k_is);(case i=>k_is);(case l=>k_is);(case c=>k_is);(case k=>k_is);(case b=>exact λ_ _ _ _ _ _=>DL.us4 λ_ _ _ _=>rfl)),"!(",(by refine' DL.bC KX G ?a ?l ?c ?k ?b;(case a=>k_is);(case l=>k_is);(case c=>k_is);(case k=>k_is);(case b=>exact λ_ _ _ _ _ _=>DL.us3 λ_ _ _=>rfl)),"!3",(by obtain⟨a1,a2,a3,a4,a5,a6,k1,k2,k3,k4,k5,k6,hA⟩:=h';refine o_),"!=",(by obtain⟨sl,e1⟩:=I.base.slot b o e n Y hx),"!H",(by obtain⟨ds,e1,e⟩:=GN.mp e;show"!7"),"!M",(by obtain⟨its,r,pl,hz⟩:=I.tuple hq),"!O",(by obtain⟨e,n,ne,nf,d⟩:=I.pin p hp),"!S",(by obtain⟨o,e,c,d⟩:=st;exact ⟨o,e,λv z=>by rw[d]at z;cases z⟩),"!U",(by obtain⟨a,vs,rfl,qa,ra⟩:=bO rx),"!V",(by intro vs ds d M G H Q sub m r e k),"!Z",(by obtain⟨p,vs,rfl,q,rr⟩:=bO r),"!`",(by cases bA rx;cases bA ry;cases e),"!e",(by intro vs ds d G H Q sub r e k),"!s",(by rename_i h;rw[HZ,HZ,IF]at h),"!x",(by subst Y;rw[bR]at e;cases e),"!y",(by obtain⟨wt,wn,qa,hA⟩:=h),"!~",(by subst q1;rw[dQ];show"!K"),"#)",(by refine GM X!;dsimp only),"#*",(by obtain⟨a,rfl,q⟩:=hx),"#?",(by rintro(z|⟨z,_⟩|z)),"#@",(by rintro(z|⟨_,z⟩|z)),"!&",(by dsimp only;refine' DL.eA ?a ?i ?l ?c ?k ?b;(case a=>k_is);(case i=>k_is);(case l=>k_is);(case c=>k_is);(case k=>k_is);(case b=>exact λ_ _ _ _ _ _=>DL.us3 λ_ _ _=>rfl)),"!)",(by refine' DL.bC KX G ?a ?l ?c ?k ?b;(case a=>k_is);(case l=>k_is);(case c=>k_is);(case k=>k_is);(case b=>exact λ_ _ _ _ _ _=>DL.us4 λ_ _ _ _=>rfl)),"!-",(by dsimp only;refine'⟨?pg,?hd,?po,?sa⟩;(case pg=>k_is);(case hd=>k_is);(case po=>k_is);(case sa=>k_is)),"!4",(by obtain⟨v,rfl,r1⟩:=eZ r;obtain⟨rfl,rfl,hM⟩:=cO r1 e1;obtain⟨es,B,J⟩:=((m.cell q.1 _ hM)).2),"!5",(by obtain⟨v1,t1,rfl,r1,rr⟩:=bJ rr;obtain⟨v2,t2,rfl,r2,rr⟩:=bJ rr;cases cM rr),"!B",(by obtain⟨oc,od,kV,bo,pm,an,af,ct,dr,rfl,lk,bv⟩:=F.ex),"!L",(by unfold Am at h;obtain⟨u,r,e1,q,t⟩:=h;subst e1),"!W",(by unfold Ar at h ⊢;obtain⟨a,vs,e,q,r⟩:=h),"!Y",(by obtain⟨a',b',c',e',hm⟩:=w.sgs x hx q hq),"!a",(by intro x y dx dy d M G H Q sub m rx ry e k),"!g",(by refine iU h cu ?_;by_cases c1:i∈W.its),"!l",(by cases yQ I n r ru<;>cases yQ I n' r' ay),"!t",(by simp only[ne_eq,decide_not,NU,KC,NG]),"!z",(by obtain⟨_,vs,B,J⟩:=m.cell a _ hM),"!|",(by rw[GS c];exact keep rfl rfl w.inv),"!}",(by obtain⟨a,vs,rfl,qa,ra⟩:=bQ rx),"##",(by obtain⟨sl,lm⟩:=so.2.2 b o eb),"#$",(by subst Y;rw[mup_same]at e;cases e),"#&",(by obtain⟨q0,h0,rfl⟩:=HK.mp hq),"#,",(by simp only[HX,IN,IQ,hx]at h ⊢),"#-",(by obtain⟨q,hq,rfl⟩:=HK.mp hy),"#.",(by obtain⟨ae,fd,B,J,h3,h4⟩:=F),"#3",(by exact hR M rl _ _ st hL .refl),"#8",(by obtain⟨od,ac,hl⟩:=I.look),"#9",(by have c':=OD c;rw[GS c']at st),"#:",(by have c':=JZ c;rw[HB c']at st),"#B",(by obtain⟨ae,fd,F,hb,m⟩:=d),"!!",(by dsimp only;refine' DL.b8k (DL.eB KX G ?g) ?a ?i ?l ?c ?k ?mm ?kc ?b;(case g=>k_is);(case a=>k_is);(case i=>k_is);(case l=>k_is);(case c=>k_is);(case k=>k_is);(case mm=>k_is);(case kc=>k_is);(case b=>exact λ_ _ _ _ _ _=>DL.nB λ_=>rfl)),"!9",(by obtain⟨ob,eo,ec,ed⟩:=id g1;obtain⟨ot,zn,_,nt,zo⟩:=g2;unfold Builtin.SmallTypes.nextOf;refine GM (JF (name:=ki!) g1.typeIs ND (IP ND g1.typeIs F.entry_tuple_iterator_next ?_ (F.args_tuple_iterator_next_1 _)));show wpAny _ _ (field (.ref jt) 0>>=_) _ _ s),"!:",(by refine dA b1_ λv s1 ⟨x,H1,I1,r1,q1⟩=>?_;refine dA fV_ λu s2 ⟨y,H2,I2,r2,q2⟩=>?_;exact hf v u s2 x y H2 I2 r1 r2 q2),"!<",(by intro O s Z H Q I h;refine W.methodCall_KW (pl:=pl) (dA cr_ λu s1 ⟨x,H1,I1,rx,a,dx,fs,ex,ea,l,q⟩=>?_) ht;subst ex;obtain rfl:u=Value.ref a:=rx;refine nX I1 ea c hm l ?_),"!@",(by obtain⟨us,rv,p1,_⟩:=I.list qa;obtain⟨us',au,p2,_⟩:=I.list qb;have B:=aJ rd;have J:=aJ re;have h3:=eF!),"!A",(by have I1:Inv X O Z H {s with heap:=h'}:=I.turned (t':=s.toks) mn! f0 f1 f3 f4 f5;obtain⟨o,e,c,d⟩:=id h1),"!C",(by unfold Builtin.SmallTypes.ownedTupleIsFree;refine GM (JK gz rfl (x:=.none) rfl X!);simp only[IU];refine GM g8!;refine GM (JK gz rfl (x:=.ref TO) rfl ?_)),"!E",(by rintro⟨⟨⟩,h1⟩ s' ⟨rfl,a1,a2,a3⟩;dsimp only;obtain⟨L',b1,b2,b3⟩:=sA jx hk f7 a1 a3),"!I",(by intro O s Z H x y v u Q I rx ry h;obtain⟨i,j,rfl,rfl,q⟩:=h;show"!>";obtain⟨t',rfl⟩:=ry),"!J",(by show"!1";obtain⟨kb,md⟩:=cH Y;obtain⟨kc,RM⟩:=uM bn;refine iP (aX.trans (congrArg some iS)) ?_;refine ifT (aX.trans (congrArg some a2w)) ?_),"!N",(by obtain⟨i,hi,q⟩:=mU Y;obtain⟨p,ds,vs,B,J,h3,h4,h5⟩:=er.own_ i hi;rw[q]at J;cases J),"!Q",(by have l1:=congrArg List.length e;have l2:=congrArg List.length e';simp[Jk]at l1 l2;omega),"!T",(by obtain⟨cl,bz⟩:=b2p (X:=X) (scope:=scope) λp hp hf=>I.ok.has p.1 (il p hp hf)),"!X",(by simp only[(show Builtin.Dict_items.ownsTuple "dict_keyiterator"=false by decide),HX,IN];show wpAny J_ A.in1 (if(Value.ref d==co_)=true then _ else _) _ _ s;rw[(GS (λz:(Value.ref d==Value.none)=true=>HM z))];refine GM (GO (GM (KG uo uq ?_)));rw[an!]),"![",(by have hT:=a9.typeIs;obtain⟨o,ho,hc,hd⟩:=id a9;obtain⟨od,uo,_,uq⟩:=id D),"!]",(by exact a3m (s:=({s with heap:=B})) (fo:=none) a3 hn a1 λJ b1 b2 b3 b4=>k J T h7! b1 (a2.skip b2 (by intro x hx;simp at hx;subst hx;exact .inr (VN a0))) b3),"!^",(by refine GM (JK eo ed (x:=.ref tt) rfl ?_);rw[(GS (show¬((Value.ref tt==Value.none)=true)from HM))];refine GM (JK eo ed (x:=.int n 0) rfl ?_);refine GM (MD zn zo ?_);simp only[LP,g3]),"!_",(by have I1:Inv X O Z H {s with heap:=h',toks:=tk}:=I.turned mo! f0 f1 f3 f4 f5),"!b",(by obtain⟨o,es,ep,ho,r⟩:=hm;refine ⟨o,es,ep,kp _ o ?_ ho,r⟩;simp only[GR,IJ,KL,NV];exact ⟨GT fz.2.1,GT fO.2.1,GT f1.2.1,GT f2.2.1⟩),"!c",(by obtain⟨gq,H3,I3,n3⟩:=q3;obtain⟨m',hm,w3⟩:=hN gq H3 n3;exact ⟨m',hm,gq,H3,I3,w3⟩),"!h",(by obtain⟨i,hi⟩:=LZ.mp hv;obtain⟨d,_,p⟩:=gD z hi;exact⟨_,_,p⟩),"!i",(by obtain⟨e,he,hv⟩:=hi.2 i acc[i] (by rw[IK B]);rw[he,LI,IK B,hv];rfl),"!j",(by have:X.env.scope.names.lookup x=some .free:=hk;rw[k]at this;cases this),"!k",(by have hf:=a7d x k;have hl:∀i∈plc es dr!,i<es.size:=λi hi=>b6y hi),"!m",(by obtain⟨hi,r1⟩:=r1;obtain⟨p,dx,vs,rfl,rfl,hH,hl⟩:=a6q m1 q1 hi),"!n",(by simp only[sliceBounds,HT.sIx,Option.getD_none,(show(1:Int)>0 by decide),IU];by_cases h:i<0),"!p",(by show"!;";obtain⟨q,e2,e⟩:=GN.mp e;obtain⟨ZZ,e3,rfl⟩:=GU.mp e),"!q",(by obtain⟨e1,e2⟩:=B b Y hr;obtain⟨e3,e4⟩:=J b n7! e2;exact ⟨e3.trans e1,e4⟩),"!r",(by intro x hx;obtain⟨r,f,p',g1,g2,g3,g4,g5⟩:=hA.row x hx;exact of_),"!u",(by obtain⟨_,_,_,_,o,_,_,e,ex,_⟩:=I.hok p _ hk;exact⟨o,e,ex⟩),"!v",(by show (wpAny _ _ (field g7_ 2>>=_) _ _ _);refine GM (JK gz rfl (x:=.bool false) rfl ?_);refine GM (JK gz rfl (x:=.ref TI) rfl ?_);refine GM (MD gI rfl ?_);refine GM ?_),"!{",(by show"!1";refine iP (aX.trans (congrArg some iT)) ?_;refine iP (aX.trans (congrArg some hJ)) ?_;refine ifT (aX.trans (congrArg some a2x)) ?_),"#%",(by show pB_=_;rw[GS h0,GS B,GS J,GS x3,GS x4,GS x5,GS x6]),"#'",(by have rs:∀j∈rest,j<es.size:=λj hj=>J j (GP _ hj)),"#(",(by subst hj;rw[hi]at e1;cases e1;rw[IL TF]at e2;cases e2),"#/",(by unfold pyNext;refine GM (OF (JF (name:=ki!) hT JU (IP JU hT QB ?_ (PX _))));refine GM (GO (GM gg_))),"#0",(by have ne:∀{b u},H b=some u->b≠p:=λe=>cC e hp),"#1",(by obtain⟨its,rv,⟨o,B,J,n,h3⟩,_⟩:=I.tuple kg_),"#2",(by obtain⟨B,J⟩:=hA.mq i hi;rw[aw _ pV!];exact pO!),"#4",(by rw[GW,GW,<-h3,<-h4,<-B,<-J];by_cases hl:f_=U_),"#7",(by rename_i kvs ep hM;obtain⟨kk,e1,e2⟩:=GN.mp e),"#<",(by cases dY ry;cases e;refine o_;rw[yR rx];show"!o"),"#=",(by simp only[Op.nm,D.tup.injEq,QY,D.int.injEq]at e),"#>",(by rw[pN ln!,pN ln_];exact b0x (mm p hp) (mm q bg)),"#A",(by have hi:i=fh!:=Nat.le_antisymm st.1 hg;subst hi),"#C",(by obtain⟨ad,kvs,vs,kg,UM,zl,zm,hn,hs⟩:=hd.ex),"#D",(by cases e;refine ⟨G,ρ,_,er,?_,k⟩;show((Option.some ds)).bind _=_;simp[hl])]
def z'0:String:=z [a!,(by omega),b!,Or.inl rfl,c!,Inv X O Z H s,d!,(by decide),e!,model X.prog X.w,g!,List ax_,h!,Txt P w K mg t,i!,xs.length,j!,List et_,k!,List V,l!,List Op,n!,List Str,o!,["thing"],p!,aD E!,q!,model prog w,r!,fC aI!,u!,(by omega),v!,Aa 2,w!,Aa 1,x!,Ak.units hr,y!,aD af!,z!,List Int,A!,.bl true,B!,some cL!,C!,Aa 5,D!,arrOf st,E!,aA 0,F!,(by simp),G!,Aa 4,H!,some he!,I!,⟨_,rfl⟩,J!,List Addr,K!,.int 0,L!,Bf G H,M!,some x0,N!,.lst xs,O!,s2.heap.objs.size,P!,Bq 3,Q!,λ_=>True,R!,(by decide),S!,some C_,T!,ps.length,U!,[aU_,aM!],V!,.str k,W!,[aA!,aO_],X!,GO ?_,Y!,l.length,Z!,some o.v,Aa!,b=true->q1 ρ M R,Ab!,(λi v=>∃c u,x.cps[i]?=some c/\v=.str aC! u),Ac!,∀K:D->Mh->Prop,fo ρ M K=K x M,Ad!,[Ac_,.str ⟨#[q.1]⟩],Ae!,(m5!).any b_=false,Af!,λi h ⟨o,ho,_,hd⟩=>⟨o,ho,λv z=>by rw[hd]at z;cases z⟩,Ag!,IntsAre items.toList ns,Ah!,J _ _ _ _ _ _,Ai!,(λd=>match d with|.int k=>D.tup Ah_|_=>.non)∘λi=>D.int em!,Aj!,wi.sg a ha q hq,Ak!,some (.tup [kp!,a0,b,tx]),Al!,decide ((l[k]).1=b),Am!,Ab g (Ab k Af),An!,.Call (.Attribute bk_ "extend" aj) [e] [] ag,Ao!,[aU_,aM!,.int a9!],Ap!,.lst ((el!).take at_++nw.map Bc),Aq!,mirror xs i j ((j - i) / 2),Ar!,decide (a=root),As!,.dct (bZ_++[(.tup U!,.lst [])]) (Fx bZ_ ag_ e1),At!,λi j h3 h4=>?_,Au!,GS (λz:i=.tup [.int h,.int n]=>hn (z▸hi)),Av!,(λi h4 h5=>by rw[show i=x+1 - 1 by omega]),Aw!,λi j h5 h6=>?_,Ax!,⟨by show _<=_;simp only;omega,same.its,same.txt⟩,Ay!,⟨rfl,lo,lo,rfl,g2,g4,g5⟩,Az!,pendingOf h1,AA!,[B!,Z!,none,none,none,none,none,none,none,none],AB!,λ_ _ z=>z,AC!,∀x,(kget wd x=none/\kget kb x=none)\/∃k:Str,kget wd x=some V!/\kget kb x=some fq_,AD!,(∀x∈xs,∀(R:β->Shared->Prop),(∀y,F x y->R y s)->wpAny q! A (f x) R E s),AE!,λv hv R hR=>?_,AF!,ys.toArray.filterMap id,AG!,Az AF_ wn E_,AH!,(Value.type "int"::r),AI!,l.filter λx=>Kl x p,AJ!,s.cps.toList.map λ_=>.bl true,AK!,B.mem_iff.mp (JY cx),AL!,Fe X.prog X.w X.K X.mg X.base Pf k f fd ps v9_,AM!,iW [(t.B2,a)] (one ⟨_,i9,rN B⟩) c_,AN!,(λo ho=>by cases ho),AO!,((hs os 5).length:Nat),AP!,∀H':Hp,H' c=none->Ii X O H' c,AQ!,Inv X (O++[ll_,AP_]) Z H s,AR!,(by show¬((0:Int)=5);decide),AS!,(by show¬((0:Int)=15);decide),AT!,(by show¬((5:Int)=15);decide),AU!,Array.toList_inj.mp,AV!,(by show¬((15:Int)=0);decide),AW!,(by show¬((15:Int)=5);decide),AX!,⟨Array.Perm.refl _,rfl,rfl,rfl⟩,AY!,(by rw[hsz];exact oz),AZ!,fx ρ=some dl_,A0!,(by rw[b3,hd]),A1!,⟨_,PP ha λ_=>#[]⟩,A2!,OB ha rfl ?_ lj_ cG!,A3!,wpAny_newTuple ?_ (by show as!<=_;rw[JC];omega),A4!,.int (t+1+m / 3%3),A5!,IM _ _ (λz=>Y (by rw[z];exact HI.mpr rfl)),A6!,dN rfl (dN rfl rfl b8h) rfl,A7!,checkCount "sorted" 1 1 _,A8!,⟨_,mf,rfl⟩,A9!,[H!,aq_,hM!,none,none,none,none,none,none,none],Ba!,(s1.heap.push co!).update s1.heap.objs.size (Obj.mapSeq (·++aO!)),Bb!,(Ba!).push Ba_,Bc!,λa b e=>?_,Bd!,JE (by rw[JB,hi.1];omega)]
def z'00:String:=z [a_,List D,b_,(·.1),c_,(by simp),d_,hr.mono d!,e_,Ad->Option D,f_,ds.length,g_,List Value,h_,⟨rfl,rfl,rfl,f1_,rfl,f1_,f1_⟩,i_,List Nat,j_,wl l_,k_,s.heap.objs.size,l_,Aa 0,m_,HB rfl,n_,Value->Shared->Prop,o_,⟨rfl,?_⟩,p_,Fl->Mh->Prop,q_,λ_ _=>rfl,r_,some df_,s_,(·.2),t_,aQ _,u_,D->Mh->Prop,v_,(by decide+kernel),w_,wl w!,x_,HL _,y_,Str->Option Value,z_,arrOf h1,A_,s1.heap.objs.size,B_,(x==lY_)=false,C_,.fn p,D_,fC K!,E_,.dct [] 0,F_,Aa 3,G_,some av!,H_,List α,I_,wl v!,J_,model P w,K_,some i,L_,os.length,M_,Gl X x,N_,Bl 0,O_,(by rw[hA.ro];simp),P_,aD ai_,Q_,k+1,R_,some x1,S_,.ref a,T_,Option D,U_,es.length,V_,List Env,W_,fC bs!,X_,ys.length,Y_,DE X own a fa,Z_,(a,b),Aa_,b=false->q2 ρ M R,Ab_,D X.A.in1 hh,Ac_,.int (q.2:Nat),Ad_,starEach [a] X.env=dF_::starEach [] X.env,Ae_,l.any λd=>Dy d x,Af_,(ar!).length<5000,Ag_,IntsAre jw.toList ms,Ah_,[fb_,fc!,.int (z+k)],Ai_,(s,c,b&&!decide (s∈cy)),Aj_,l[j]?.map b_,Ak_,[B!,M!,Ak!,fA!,y4,some lb_,hB!,y,none,none],Al_,.Call (.Attribute bk_ "insert" aj) [ek,e] [] ag,Am_,[B!,M!,fA_,bk!,y4,hE!,some K!,none,none,none],An_,(.tup yh_,.str ⟨#[s.cps.toList.getD k.toNat 0]⟩,true),Ao_,.lst ((el!).drop at_),Ap_,.lst ((wrT b nw ar!).map Bc),Aq_,D.tup U!∉W.its,Ar_,getElem?_pos _ k cx,As_,.dct (hG_++[(.tup U!,.fn q)]) (Fx hG_ ag_ e2),At_,W.its++[D.tup U!],Au_,(show x - 1<a0.size by omega),Av_,h m st b h3 h4 u,Aw_,(∀i,i<lo->rk r z_ i<=rk r z_ k),Ax_,⟨same.rows,same.its,jO_⟩,Ay_,Sg w x0 d nm,Az_,(none,a0.size),AA_,[B!,Z!,some o.d,none,none,none,none,none,none,none],AB_,∀K:Bool->Mh->Prop,K b M->ft ρ M K,AC_,Gu x.d=none/\¬kget wd x.nm=some b7_,AD_,(by simpa using c'),AE_,(by rw[zj!];exact g4),AF_,Az qg! wt E_,AG_,.dct (k3 cK_ du! hy_) 3,AH_,HH.mpr ⟨IJ,MX⟩,AI_,l.filter λx=>Kl x q,AJ_,λp=>Iu qi! (Ld h p.1),AK_,⟨[a],[(Str.ofString "key",v)]⟩,AL_,(c,seqObj "list" ku.toArray n),AM_,(by simpa using c),AN_,((hs os 0).length:Nat),AO_,((hs os 15).length:Nat),AP_,(c,seqObj "list" ku.toArray e),AQ_,ksk_tail a false e1 cO! st,AR_,Obj.mapSeq λ_=>(#[]:Array Value),AS_,(by show¬((5:Int)=0);decide),AT_,List.map_fst_zip qr_,AU_,λv hv=>?_,AV_,Ld s.heap p.1,AW_,λx y F Q hx hy hq=>?_,AX_,(by rw[hsz];omega),AY_,⟨a1,a2,a3⟩,AZ_,Iu hL_ (Ld s.heap p.1.1)<Iu hL_ (Ld s.heap q.1.1),A0_,s.heap.get? a=some (seqObj "list" us.toArray n),A1_,QA ha rfl ?_,A2_,seqEpoch_at ux rfl ?_,A3_,cs.set k (.int (c+1)),A4_,ts.set k A4!,A5_,GQ _ ((A5!).trans q),A6_,dN rfl rfl rfl,A7_,(by rw[JC];omega),A8_,[H!,aq_,hM!,bI_,some (.lst [.int c0,.int c1,.int c2]),some (.lst [.int t0,.int t1,.int t2]),x6,x7,x8,x9],A9_,(by rw[he];rfl),Ba_,seqObj "list" its.toArray 0,Bb_,(by rw[(cG _).length_eq,JC];omega),Bc_,ItemsOf p1_ acc U_,Bd_,λq e=>Cu K G q.1 e.key]
def z'a:String:=z [aa!,Br M w rl W,ab!,.fn a,ac!,bM x!,ad!,List DictEntry,ae!,fC aA_,af!,aA 1,ag!,D->Ad->Option Ad,ah!,.ref f,ai!,λ_=>some true,aj!,Ad->Option Bool,ak!,List e7!,al!,[a,b],am!,starEach aG_ X.env=dL!::starEach es X.env,an!,GS c_,ao!,Ad->Option aL!,ap!,W.rows.length,aq!,A.units<cLine,ar!,W.txt a,as!,us.length,at!,aI (λ_ _ h=>aS h),au!,aD aB,av!,.fn o,aw!,(by rw[hA.r6];simp),ax!,some (.lst ops),ay!,ME X own a fa,az!,kvs.length,aA!,"self",aB!,wl G!,aC!,⟨#[c]⟩,aD!,Ad->Option Fl,aE!,(by rw[u5];simp),aF!,[bN_],aG!,EP X O Z Q,aH!,"hand",aI!,.int 1,aJ!,bZ x!,aK!,aA 3,aL!,List D,aM!,.int n,aN!,⟨trivial,?_⟩,aO!,its.toArray,aP!,f2 Ai l_ D_,aQ!,(ri!).any b_=false,aR!,aA 4,aS!,aD aR!,aT!,i∉own,aU!,(by rw[hA.r4];simp),aV!,.str s,aW!,some bC!,aX!,PE X a ta,aY!,.ref C0,aZ!,[f3!],a0!,Hl false,a1!,aM aH aL E! aB q_,a2!,aM aH aL ai_ aB q_,a3!,its.toArray.size,a4!,Or.inr rfl,a5!,Ck t M o rl W hb,a6!,.type "tuple",a7!,(λ_ _ e=>by cases e),a8!,ep+1,a9!,((k:Nat):Int)]
def z'aa:String:=z [aa_,Array Value,ab_,.ref C,ac_,List D->Option D,ad_,X.N[i]?=some x,ae_,k_+1,af_,aI at!,ag_,.tup U!,ah_,.bl false,ai_,aA 2,aj_,f ρ,ak_,(by rw[u3];simp),al_,wl F_,am_,aA 5,an_,λi hi=>(by cases hi),ao_,oF a1 a2 a3 a4 a5 a6,ap_,.nx ρ,aq_,some kw!,ar_,rs.length,as_,[aH!,cs!],au_,aD aK!,av_,(by rw[hA.r2];simp),aw_,s.length,ax_,D×D,ay_,os.map Op.v,az_,r.length,aA_,.int 3,aB_,GS hk,aC_,Cm.refl sub,aD_,(by rw[u4];simp),aE_,X.A.units+64<cLine,aF_,.inl rfl,aG_,(e::es),aH_,"_law_item",aI_,Aa 6,aJ_,Option Addr,aK_,Jk xs,aL_,.fn o,aM_,(by rw[hA.r5];simp),aN_,List cf!,aO_,"name",aP_,wl D_,aQ_,dL 0,aR_,.lst ys,aS_,λx hx=>?_,aT_,(by rw[hA.r3];simp),aU_,.int h,aV_,Ig ops,aW_,X.N.Nodup,aX_,I.tok _,aY_,i+1,aZ_,Ab l_ Af,a0_,HB hk,a1_,f2 Ai v! ae!,a2_,Option Int,a3_,(x,p),a4_,D->D->Option D,a5_,W.txt i,a6_,.rt d,a7_,List MK,a8_,HB a!,a9_,Cf t M a ta wa out S kl ca]
def z'b:String:=z [ba!,Lm P w H h,bb!,Vm X.env.scope x,bc!,"_law_script",bd!,vs.length,be!,Bq 2,bf!,aD aT,bg!,Ae st,bh!,u++v,bi!,.fn r,bj!,.type "list",bk!,some ag_,bl!,some (.int most),bm!,Dk d=some k,bn!,mixKind P w,bo!,(env::outer),bp!,List Stmt,bq!,I.ok.hd hc,br!,[aH!],bs!,.int 2,bt!,Aa 8,bu!,Ac j_ Ag,bv!,Ak k X.A,bw!,aA 6,bx!,aD a2!,by!,w2 Co j_ nw_,bz!,Cy st,bA!,⟨_,_,rfl⟩,bB!,Addr->Nz,bC!,.fn q,bD!,some x,bE!,.type "bool",bF!,n+1,bG!,[none],bH!,ME X own e f,bI!,HI.mp z,bJ!,.tup xs,bK!,List Expr,bL!,(by simp;omega),bM!,[cs!],bN!,[aH!,ms_],bO!,"_law_world_here",bP!,Array sC!,bQ!,K w.params,bR!,[D.non],bS!,W.txt x,bT!,fC .non,bU!,.int 0,bV!,some (.int m0),bW!,[R_,S!,Z!],bX!,Io P w K own M0 G0 F0 M G H Z ρ,bY!,if _ then _ else _,bZ!,[M!,K_,cB!,cD!,hA!,kZ_,y],b0!,[B!,M!,some eb!,bk!,some (.bl g),none,none,none,none,none],b1!,bK rfl,b2!,d+1,b3!,Tr W.rows,b4!,f2 Ai l_ r!,b5!,Ab w! Af,b6!,Bn w_,b7!,aC E! aK,b8!,wl eP!,b9!,ns.map V.int]
def z'bb:String:=z [ba_,some v,bb_,X.calm=true,bc_,"_law_k",bd_,[b6_],be_,.Call (.Name x p) aG_ [] pos,bf_,Aa 9,bg_,List e1!,bh_,λb h=>?_,bi_,.ref ae,bj_,hb+20,bk_,.Name x cb,bl_,[aA!],bm_,mup_ne Y,bn_,fs.length,bo_,Bp v u,bp_,.int i,bq_,λb Y=>?_,br_,g i j,bs_,IW _,bt_,Aa 7,bu_,f2 Ai v! D_,bv_,cF ac! bL p! bf! q_,bw_,fS x!,bx_,⟨_,e⟩,by_,Array DictEntry,bz_,.inl z,bA_,(i,p),bB_,chl W.rows x,bC_,Ez W x,bD_,.type "int",bE_,.type "str",bF_,(by rw[v3];simp),bG_,some hb_,bH_,.int o.h,bI_,some ep!,bJ_,k _ _ aF_ e,bK_,.bl b,bL_,⟨rfl,rfl⟩,bM_,"item",bN_,"_law_ops",bO_,eJ I q c_,bP_,aA 8,bQ_,X.pn++O,bR_,ρ.set i dh!,bS_,Hn W n rows',bT_,(by rw[hA.r1];simp),bU_,M p=some hr!,bV_,Cu X.K G d u,bW_,MR X.prog X.w X.K M G H,bX_,u.length,bY_,.fn w,bZ_,W.its.map λi=>(i,D.lst k4!),b0_,h.objs.size,b1_,ha O s Z H _ I h,b2_,.ref it,b3_,"_law_found",b4_,Gi X (compareOp op) r,b5_,wl bT!,b6_,.ref a,b7_,.str "undo",b8_,Ac j_ c2!,b9_,fE (bI aJ! cB a2! aT t_)]
def z'c:String:=z [ca!,scope.names,cb!,absurd z.symm q1,cc!,OR K own G H Z ρ,cd!,mup_ne B,ce!,Bd d=true,cf!,Str×D,cg!,Dk y=some k,ch!,MR P w K M G H,ci!,q1.mono x2.g,cj!,M a=some hr!,ck!,[cg_],cl!,l[j],cm!,W.its.length,cn!,SB kd a0 st,co!,seqObj "list" #[] 0,cp!,PE X b tb,cq!,(x==ro!)=false,cr!,PE X e te,cs!,"operation",ct!,told T,cu!,Aw t.B4 "rows" j_,cv!,vs.toArray,cw!,(by rw[q];simp),cx!,us.toArray,cy!,.lst ds,cz!,Ar K G d v,cA!,DE X own b fb,cB!,some p,cC!,.Name x p2,cD!,some s,cE!,(by rw[v5];simp),cF!,scr ns,cG!,JA _,cH!,(ky_).Nodup,cI!,[aU_,d4!],cJ!,ops.map Op.v,cK!,ME X own b fb,cL!,.fn w,cM!,dE d es ep,cN!,lo+hi,cO!,.ref c,cP!,λx hx hh=>?_,cQ!,hF ta wa out,cR!,upd H a o,cS!,λp hp=>?_,cT!,.inl rfl,cU!,.Name x pos,cV!,X.mg x=none,cW!,eval o X.env,cX!,[aA!,bM_,"parent","sibling"],cY!,[bc!,bc_],cZ!,List V->Hp->VK->Prop,c0!,Be (fC ah_),c1!,ns.length,c2!,Ac w_ Ag,c3!,Ab v! Af,c4!,dS aB,c5!,⟨us,[]⟩,c6!,[cs_],c7!,items.size,c8!,aF y! aP,c9!,nr!=true]
def z'cc:String:=z [ca_,Mu X scope cl C gH! am bc fp,cb_,some nW!,cc_,⟨rfl,h⟩,cd_,.tup j3_,ce_,wl fo,cf_,some 1,cg_,(d,x),ch_,[.lst cJ!],ci_,Mh->D->D->Option D,cj_,ME X own o fo,ck_,acc.length,cl_,.nx ρ',cm_,Array Keyed,cn_,(s.heap.update a AR_).push (seqObj "tuple" us.toArray 0),co_,Value.none,cp_,Vi X.env.scope x,cq_,.int i,cr_,he O s Z H _ I h,cs_,"_law_one",ct_,y.length,cu_,aD cZ,cv_,aA 9,cw_,GP _ hy,cx_,Am K H ds vs,cy_,H p=none,cz_,f ρ=some d,cA_,mup_ne J,cB_,.int m,cC_,cs.length,cD_,(by rw[v4];simp),cE_,.ref e,cF_,GP _ hx,cG_,some item,cH_,.type "tuple",cI_,λz=>?_,cJ_,x1.trans x2 m1,cK_,.lst [],cL_,Mh->Prop,cM_,[some hD!,lc_],cN_,Sl W hb,cO_,Cu X.K G,cP_,(by simpa using e),cQ_,α->β->Prop,cR_,HR e,cS_,Unit->Shared->Prop,cT_,List V->Hp->Prop,cU_,.str x,cV_,x≠"__name__",cW_,((0:Nat):Int),cX_,∀x,foldedSetIterable iter X.env x=pure x,cY_,"_law_number_here",cZ_,[bO!,aH_,si!,sj_],c0_,At W_,c1_,Aw t.B5 "following" j_,c2_,.ref p,c3_,ps.zip us,c4_,vs++dvs,c5_,⟨rfl,rfl,rfl,rfl⟩,c6_,aC af! aK,c7_,Bq 6,c8_,⟨.bl _,H,I,rfl,?_⟩,c9_,λx=>!x.1]
def z'd:String:=z [da!,backToKw ag sV_,db!,⟨_,e,rfl⟩,dc!,bG T.U2 T.U8 p!,dd!,Ee X scope NF ix,de!,∀y∈ca!,y.2≠.cell,df!,dF _ _ e2!,dg!,.tup ds,dh!,some d,di!,(c,x),dj!,DE X own e f,dk!,Str.ofString "rows",dl!,.Name x p2,dm!,λd hd=>?_,dn!,Dy d d',do!,if Ez W a then a else Bi,dp!,(.str k::r),dq!,Bool->Shared->Prop,dr!,mkHash P w k,ds!,kget kvs d,dt!,Az M p E_,du!,.fn wt,dv!,[B!,M!,Ak!,fA!,y4,some lb_,hB!,kZ_,none,none],dw!,λc=>?_,dx!,.int i t,dy!,a==sysModules,dz!,MJ _,dA!,Hist ms,dB!,Bool->Hp->Prop,dC!,.Compare a [op] [b] pos,dD!,Nat->Heap->Prop,dE!,HN _ rfl,dF!,.ref k_,dG!,f1 Bk aZ_,dH!,.dK kvs,dI!,f1 Bk b5!,dJ!,.str "cut",dK!,Tu X.K C,dL!,(false,eval e X.env),dM!,Fe X.prog X.w X.K X.mg X.base CX k f fd ps sp,dN!,Ba dvs ds,dO!,λ_ _ _ _ _=>uZ,dP!,.type T,dQ!,gM T,dR!,.ref k_,dS!,([]:List Keyword),dT!,aG (bX y!),dU!,.inl z,dV!,Ej t M r f p xs,dW!,kput_len _ _ _,dX!,wo rows i,dY!,a∈W.its,dZ!,Str.ofString "texts",d0!,i∈W.its/\Ez W x/\¬Wn W.rows i x,d1!,(by rw[g4];simp),d2!,(λz=>nomatch z),d3!,.tup j0!,d4!,.int m,d5!,sgn h n,d6!,s.cps.toList.zipIdx.map d5!,d7!,.lst wE_,d8!,.dct (Aq k4 n bC!) e4,d9!,some n]
def z'dd:String:=z [da_,λx=>x.1.isSome,db_,aF p! aP,dc_,Aj N ps bg!,dd_,scope.kind=.function,de_,dF _ _ dU!,df_,.fn a,dg_,.lst vs,dh_,(s,p),di_,er.grow s1,dj_,s1.trans s2,dk_,(by rw[g3];simp),dl_,.int j,dm_,λb h=>.inl h,dn_,Dk a=some ka,do_,cN.mp hc,dp_,HB hc_,dq_,Gx ks k,dr_,[R_,S!,aW!,Z!,hq_],ds_,az!<big,dt_,Addr->LR,du_,[B!,K_,bD!,cD!],dv_,Tq prog w A s a0 kd r,dw_,Int×Int,dx_,Str×V,dy_,List β,dz_,X.s₀.heap.objs.size,dA_,ms.map Op.v,dB_,behindInMarks op b=false,dC_,some x,dD_,["sign"],dE_,⟨_,dE!,rfl,rfl⟩,dF_,(false,eval a X.env),dG_,xs.isEmpty,dH_,.fn t.A0,dI_,Sem Bool,dJ_,List (Str×Value),dK_,f2 Ai v! W_,dL_,.str "put",dM_,Eu X.K fd ps ds,dN_,Ju CX X E,dO_,Aw t.B3 "taken" j_,dP_,.ref b,dQ_,aA 7,dR_,Uc x,dS_,its.length,dT_,aF p! c8!,dU_,Mu X scope cl G2.objs.size gH! s2 H2 fp,dV_,(d::ds),dW_,i∈own,dX_,Ie X.K r g,dY_,Str.ofString "parents",dZ_,k _ G H aC_ Ar.int,d0_,(by rw[hr];simp),d1_,(by rw[g5];simp),d2_,λq hq=>?_,d3_,List.range m.toNat,d4_,k _ G H aC_ Ar.bl,d5_,some b,d6_,.str s,d7_,Az (Az M5 a3 ot_) q d7!,d8_,Ar X.K H d v,d9_,Sum.inr y]
def z'e:String:=z [ea!,KH ..,eb!,.tup [ko_,a,b],ec!,K.In h,ed!,{s with toks:=tk},ee!,l.map b_,ef!,kq_<64,eg!,some hp_,eh!,λx hx=>kN_,ei!,.int o.tm,ej!,Bj q,ek!,rs.map Bj,el!,(ar!).map Bc,em!,((i:Nat):Int),en!,arrOf bi,eo!,(a,oa),ep!,.lst ay_,eq!,xs++ys,er!,(Str.ofString "ours",.int 3),es!,[a,b,c],et!,bK (d:=bU!) rfl,eu!,Az M q cK_,ev!,X.A.handled,ew!,s.heap.FunFrames base bo!,ex!,(by simp[z]),ey!,some lV_,ez!,eval e X.env,eA!,.BoolOp .And (b::rest) pos,eB!,.BoolOp .Or (b::rest) pos,eC!,.UnaryOp .Not a pos,eD!,Np i,eE!,List fY_,eF!,rv.length,eG!,.int j,eH!,Value->Value->Sem Value,eI!,binaryOp .Add,eJ!,x.length,eK!,some ah!,eL!,.ins C dx fs,eM!,backToKw pos sV_,eN!,Eo l_,eO!,Bn I_,eP!,f2 Ai v! r!,eQ!,PA X aG_ t,eR!,A.handled=none,eS!,Aw t.B3 "waiting" j_,eT!,aC ai_ aK,eU!,aD i5_,eV!,GT Y,eW!,xs++[y],eX!,.str "rows",eY!,At C!,eZ!,.ref fa,e0!,At aI_,e1!,Str×Addr,e2!,.inr z,e3!,Jd aK_,e4!,Aq kf a0 n,e5!,.inr e2!,e6!,Bf.refl G,e7!,D×D×Bool,e8!,fa ρ,e9!,Str.ofString "numbers"]
def z'ee:String:=z [ea_,(by simp;omega),eb_,.tup [.str "cut",a,.tup j0!,d4!],ec_,Jp P w s.heap k u,ed_,.tup dp!,ee_,(pm_).Nodup,ef_,some o.v,eg_,A.units+1<cLine,eh_,[R_,G_,aW!,some x.v,some x.nm],ei_,some cK_,ej_,[some ej!,bD!],ek_,[M!,K_,cB!,cD!,hA!,hB!,kZ_],el_,(by rw[HG];unfold big;omega),em_,j - 1,en_,hb<3800,eo_,Hw g,ep_,(fK!).zip ds,eq_,List dx_,er_,kl.map λh=>(D.int h,D.fn f0!),es_,((hW!).length:Nat),et_,Addr×Obj,eu_,S.length<64,ev_,Z.length,ew_,∀b∈frA bo!,∃o,n.get? b=some o,ex_,Z.set i ba_,ey_,Ba vs us,ez_,Yq X pn f,eA_,.BoolOp .And (a::b::rest) pos,eB_,.BoolOp .Or (a::b::rest) pos,eC_,.bl true,eD_,[v,ov,iv],eE_,.tup ip_,eF_,T.T b2!,eG_,T.T d x,eH_,"_law_deed_here",eI_,(show false=true from hs),eJ_,l.map pgD,eK_,s.heap.push iL!,eL_,wl bt!,eM_,aU (bN fZ),eN_,An 4 (wl (En F_ Au c0_)),eO_,us++ds,eP_,.str "move",eQ_,bG T.U0 T.V7 p!,eR_,IV gu!,eS_,.builtin id,eT_,nQ x!,eU_,aM aH aL af! aB q_,eV_,if(dS!).isEmpty then 0 else 1,eW_,⟨e,?_⟩,eX_,f1 Bk gl_,eY_,dB 3,eZ_,bG T.U1 T.V1 p!,e0_,Bf H H',e1_,List vc_,e2_,Aq l d v,e3_,λa b=>?_,e4_,Aq kp n a0,e5_,upd H p o,e6_,Kh own Z G H,e7_,im x,e8_,D×D×Bool,e9_,fs ρ]
def z'f:String:=z [fa!,⟨1,?_⟩,fb!,hb+1,fc!,.int y,fd!,λx gg hy=>?_,fe!,SR K own G0 F0 G H Z ρ,ff!,Bd d'=true,fg!,f1 ρ=some a,fh!,x.cps.size,fi!,.tup xC_,fj!,.tup ip_,fk!,Cq N,fl!,h.Ns mainGlobals mg,fm!,bV rfl rfl,fn!,HF c_,fo!,(none,()),fp!,Hf P w K G kvs es,fq!,Bool->Mh->Prop,fr!,(∀b,b≠p->M' b=M b),fs!,cP h5,ft!,wl fa,fu!,Bo dY_ ft_ [],fv!,Dk y,fw!,st.grow x1 m1,fx!,⟨by simp[big];omega,?_⟩,fy!,rs[k],fz!,q.1=x,fA!,some nm,fB!,[some hD!,fA_,bk!],fC!,wpS_get ?_,fD!,(show i=j by omega),fE!,List hI_,fF!,L'.length,fG!,⟨_,i1,nZ B⟩,fH!,eK B,fI!,Cu K G,fJ!,a==b,fK!,us.zip us,fL!,((ep_).map s_).map Mv,fM!,.ref x,fN!,some (.int h),fO!,λ_ q=>q,fP!,.frz o u,fQ!,A.frames=some bo!,fR!,∀b,k_<=b->n.get? b=none,fS!,λb o e n Y hx=>?_,fT!,Cf t M a ta wa out [] [] ca,fU!,ms.map λo=>h8!,fV!,bK (d:=.fn p) rfl,fW!,PT X a tA,fX!,X.pn++O++[gT!],fY!,HS t M a W,fZ!,PassesOwn e! X.A X.env X.xe,f0!,ca h,f1!,(by simpa using Y),f2!,["thing","limit"],f3!,"operations",f4!,"other",f5!,[aA!,aO_,bM_],f6!,T.T 0 x,f7!,[iv_,aO_,"deed"],f8!,[aA!,f4!],f9!,(∀b∈fp,H' b=none)]
def z'ff:String:=z [fa_,Dk i=some ki,fb_,.int x,fc_,(by rw[q3];simp),fd_,⟨G,ρ,_,er,e1,v3!⟩,fe_,V.ref p,ff_,(by show A.units+1+Dq xs<cLine;omega),fg_,[G_,d9!,some a,d5_,some pl],fh_,Option Value->Shared->Prop,fi_,.Tuple jb n1 tp,fj_,[z,TO,i1,i2],fk_,some (.lst kinds),fl_,List To,fm_,HY rfl,fn_,λi hi=>?_,fo_,kvs.map b_,fp_,Hx kvs,fq_,.bl hl!,fr_,mup_ne Y,fs_,h3.typeIs,ft_,.fn a1,fu_,Tv X.K H dx,fv_,MA X own aG_ fs,fw_,qa i,fx_,λd hd=>?_,fy_,[B!,K_,cB!,cD!,hA!,hB!,y],fz_,[B!,bD!,K_,y],fA_,some fi!,fB_,Keyed->Int,fC_,n<=a0.size,fD_,fo ρ=some C_,fE_,(by unfold Wy;omega),fF_,(t.A0,a),fG_,HD _ (HD _ c_),fH_,Hist os,fI_,es.map kB_,fJ_,us.toArray.zip cx!,fK_,Ba xs us,fL_,tupleKind bn!,fM_,(by rw[hA.ob];simp),fN_,List α->Prop,fO_,aY (cC q hn),fP_,[r_,Z!],fQ_,env.frame=some L,fR_,frA bo!,fS_,.own a,fT_,(λz=>by cases z),fU_,p6!<64,fV_,Y O s1 Z H1 _ I1 q1,fW_,HB el_,fX_,X.wish E,fY_,Nat×D,fZ_,It->Hp->Prop,f0_,(d+1,c),f1_,(by decide+kernel),f2_,["parts","checks"],f4_,2 ^ 62,f5_,[aA!,bM_,"parent"],f6_,[aA!,bM_,"place","number"],f7_,[aA!,"ours"],f8_,[aH!,f4!],f9_,[mx_,cY_]]
def z'g:String:=z [ga!,i.natAbs,gb!,[bO!,aH_,"_law_deep"],gc!,f2 Ai l_ W_,gd!,fC gc_,ge!,List (κ×V),gf!,.int n,gg!,Hq t,gh!,Ac I_ Ag,gi!,Aw t.B4 "texts" j_,gj!,An 1 mV!,gk!,aj.atName,gl!,Ak k A,gm!,Bq 4,gn!,bU cD eG rfl T.Q7 dO b7!,go!,An 2 Fg,gp!,Ac b8! (Ac go_ (Ac (wl a1_) Ag)),gq!,.str "write",gr!,X.mg x=some ab_,gs!,wl (Di Af),gt!,Aw t.B3 "outline" j_,gu!,(by simpa using hi),gv!,.int a t,gw!,aC tG! aK,gx!,Tn xs lo hi,gy!,aD fZ,gz!,aD jb!,gA!,.str aC!,gB!,aF bx! (aF bx! je_),gC!,.bool true,gD!,Sc ak.heap H,gE!,W.keepIn K ah!=true,gF!,(by rfl),gG!,bG T.U0 T.V8 p!,gH!,NL++NF,gI!,.ListComp du vu_ scope pos,gJ!,absurd z.symm q2,gK!,∀cl C am bc fp,PG ca_ tg g,gL!,Ar K H d v,gM!,K.f _ _,gN!,Qt rows i p s rows',gO!,Cm.refl er.sub,gP!,r1.mono s2.g,gQ!,ft ρ,gR!,Qz t M o rl W hb a1 a2 a3 a4 a5 a6 k1 k2 k3 k4 k5 k6,gS!,sub.free hp,gT!,(a,oe),gU!,w.nm i hi,gV!,hb<3900,gW!,U++v,gX!,(by rw[q4];simp),gY!,Cm.laid x.sub hp,gZ!,s.cps.toList.length,g0!,er.grow x,g1!,mup_ne h6,g2!,ds.map some++List.replicate (i1! - f_) none,g3!,Am X.K H es ws,g4!,Bp v' u',g5!,f2 ρ=some b,g6!,.Name y py,g7!,s.heap.IsTuple l2 ys,g8!,KN ?_,g9!,(az_:Int)]
def z'gg:String:=z [ga_,[bO!,aH_],gb_,fC (.int 16),gc_,.str "root",gd_,i != 0,ge_,fC (.int 4),gf_,K.In s.heap,gg_,GM ?_,gh_,Rq (Ir 1 Af),gi_,Dh (Cp (fT iK!) iP_),gj_,λ_=>rfl,gk_,getMethod ov m pl,gl_,Ab G! Af,gm_,PA X es t,gn_,f2 Ai a1_ D_,go_,wl dK_,gp_,mE rfl,gq_,Ak Q_ X.A,gr_,envOfC qual scope s.heap.objs.size f cd,gs_,Md N vs,gt_,aD a1!,gu_,wl tz!,gv_,eQ T,gw_,bI aJ! cB cv_ aT t_,gx_,Ab aP! (Ab b4! Af),gy_,aG (bX gy!),gz_,.str aC!,gA_,aD eU_,gB_,(w2 a0! b8! by!),gC_,λ_ _ _=>False,gD_,f2 Ai w! W_,gE_,NameKind.free,gF_,HB gF!,gG_,bz.sub x c h,gH_,Ge l d,gI_,G2.objs.size,gJ_,∀y∈ca!,y.2=.free->vD!,gK_,fh _ I2.lt,gL_,V.ref a,gM_,ρ.length,gN_,i∈W.its,gO_,λ_ _ _ h=>h,gP_,s2.trans s3,gQ_,DT X own a ft,gR_,x∈W.its,gS_,(λr M'=>match r with|.rt d=>R d M'|.nx _=>R .non M'),gT_,.type "NoneType",gU_,.tup jZ_,gV_,[fb_,fc!,.int (z+(k:Nat))],gW_,(by simp[e]),gX_,(by rw[q5];simp),gY_,.tup U!,gZ_,.dct os! e2,g0_,Am K G ds vs,g1_,Qr F0 G1,g2_,Am X.K H ds vs,g3_,Ar X.K H d' v',g4_,.obj C fs,g5_,.inr rfl,g6_,s.heap.IsTuple l1 xs,g7_,.ref z,g8_,.int k,g9_,.str "move"]
def z'h:String:=z [ha!,.tup [g9_,a,b,c],hb!,⟨hp,g,d,tk,os⟩,hc!,Zw s.heap l1 l2,hd!,λc hc=>?_,he!,scr ns,hf!,fs ρ=some ds,hg!,(show u=.none from hx),hh!,ks.Nodup,hi!,.inl e2!,hj!,Oa s.heap a es ep,hk!,Dk x=some k,hl!,k=="undo",hm!,(aV_).map Op.v,hn!,Wx X.prog X.w X.K r gm,ho!,λx hx=>hd x cF_,hp!,Ny .str aV_ [],hq!,wl fb,hr!,.dct kvs ep,hs!,.fn a2,ht!,"texts",hu!,Dl M1 d,hv!,(x::os),hw!,((j:Nat):Int),hx!,some (.lst zv_),hy!,Az M p (.dct (Aq kvs y v) (Fx kvs y ep)),hz!,k3 (.lst k3!) du! hy_,hA!,some (.lst ek!),hB!,some (.int (a:Nat)),hC!,Aa 0 ρ=some cL!,hD!,.int a9!,hE!,some (.lst el!),hF!,[B!,M!,some eb!,bk!,none,none,none,none,none,none],hG!,.lst [],hH!,m - 1,hI!,mup_ne a1,hJ!,ku.zip us,hK!,seqObj "list" us'.toArray n',hL!,(hJ!).zip ds,hM!,some (.int N),hN!,⟨rfl,hg _ hK⟩,hO!,Rp ft ρ M false,hP!,[.ref d],hQ!,[er!,qB!],hR!,seqObj "list" (fI_).toArray 0,hS!,(show h.get? a=some _ from x),hT!,(by rw[ht];simp),hU!,∀b u,h.get? b=some u->h'.get? b=some u,hV!,bK (d:=aU_) rfl,hW!,hs S o.h,hX!,.ListComp du vu_ scope ag,hY!,Sc h H,hZ!,HR ho,h0!,(∀x c,X.env.cells.lookup x=some c->c≠b),h1!,Lm X.prog X.w H' h',h2!,v0 b o e hx,h3!,[r_,Z!,none],h4!,frs X.stack,h5!,λ_ _ _ _ n=>n,h6!,λ_ _ _ e=>e,h7!,.inr a0,h8!,(o.nm,o.v),h9!,out b o e hx]
def z'hh:String:=z [ha_,.tup [.str "drop",a],hb_,.lst its,hc_,(by unfold big;omega),hd_,λc o e=>?_,he_,(if _<=big then _ else none)=_,hf_,(show v=.none from hy),hg_,bB vk,hh_,Lz ks k,hi_,s.cps.toList.zipIdx.map kC!,hj_,q2 ρ M R,hk_,.int o.h,hl_,Sh P w K own G H Z ρ M,hm_,f ρ M R,hn_,MT X own a ft,ho_,∀o∈ops,DG o.d,hp_,.lst cJ!,hq_,some o.nm,hr_,qO I sub r hk,hs_,Bo dk! hs! fu!,ht_,Mh->List D->Option D,hu_,(o::os),hv_,.int (k:Nat),hw_,JY _,hx_,k3 a b c,hy_,.fn wn,hz_,.tup al!,hA_,Fv own Z H1,hB_,kget kvs y,hC_,λ_=>true,hD_,.lst cy,hE_,[some (Bc q),some hD_],hF_,a0.toList,hG_,W.its.map λi=>(i,D.fn fw_),hH_,x - 1,hI_,Int×Int,hJ_,l.map f,hK_,.done (.ret .none),hL_,((hL!).map s_).map eo_,hM_,Pu f1 ρ M a,hN_,(by simpa using B),hO_,List (List Key×V),hP_,o.ExactDict,hQ_,[er!,qB!,(Str.ofString "waiting",.fn wa)],hR_,h'.objs.size,hS_,hs S h,hT_,(by rw[hA.wt];simp),hU_,gV b1! hA.ob hF2,hV_,.own x,hW_,[ab!,o.v],hX_,H a=none,hY_,I.ok.bs b o e,hZ_,b∈X.ex\/dz_<=b,h0_,B.objs.size,h1_,if h=o.h then q else ca h,h2_,I.base.keep b o e n Y hx,h3_,s.heap.update T qZ_,h4_,λb Y=>?_,h5_,λ_ _ e=>e,h6_,λm hm=>?_,h7_,HQ _ z,h8_,[r_,R_,S!,Z!,hq_,y5],h9_,[r_,R_,S!,Z!,hq_,Z!]]
def z'i:String:=z [ia!,Js lU_ P w K mg base N qual scope f cd A outer s H E,ib!,TP X O Z Q,ic!,Value->Hp->Prop,id!,PE X e t,ie!,[M!,ey!],if!,(X.env::X.outer),ig!,(by simpa using hp),ih!,ok.above,ii!,ok.frames,ij!,(st::rest),ik!,St->Hp->Prop,il!,OS t M a o rl W,im!,.Name x pos',in!,hb+1 - rk x,io!,⟨.int _,H,aX_,I!,q⟩,ip!,.Name xC p3,iq!,pyNext b2_,is!,λb Y=>(hf b Y).1,it!,I1.kept (t':=s1.toks) λb o e=>GQ _ e,iu!,Gl X "range",iv!,(false,eval b X.env),iw!,HQ _ hp,ix!,f2 b Y,iy!,[aH!,bM_],iz!,"_law_most",iA!,"_law_base",iB!,"_law_at",iC!,(root::Bi::W.its),iD!,Ct (fT iC_),iE!,Gi X (compareOp eh) r',iF!,.Compare a [op,eh] [b,c] pos,iG!,fC iF_,iH!,f1 Gm aZ_,iI!,if i<0 then -i else i,iJ!,Oh (Km t) 0 b5!,iK!,f2 Ap w! bT!,iL!,W.emptyDict,iM!,Kj f v fs,iN!,Option Value,iO!,Hi t.B5 1 (Ha t) Ag,iP!,Ig os,iQ!,I.tok _,iR!,Ac I_ c2!,iS!,wl C!,iT!,(x::xs),iU!,fC b7_,iV!,aC a1! aK,iW!,λ_=>Bb,iX!,.Call s7_ aG_ [] pos,iY!,I.hok.fresh x_,iZ!,aD (mD aK),i0!,((p,w)::P.zip vs),i1!,N.length,i2!,λ_ _ _ _ _=>bF (i:=0) (show(c6!:List Str).Nodup by decide+kernel) rfl b!,i3!,aM aH aL a2! aB q_,i4!,⟨_,ho,rfl⟩,i5!,(by simpa using hv),i6!,((sIx n 0 lo:Nat):Int),i7!,aA 10,i8!,Builtin.Tuple.tupleExact _,i9!,V->Option Int->Option Int->Hp->VK->Prop]
def z'ii:String:=z [ia_,[ab!,.lst dA_],ib_,[r_,S!,aW!,hq_,some ei!],ic_,Iq Pa ms,id_,∀dt,isTrue e X.env dt=(do let v <-dt;standAt e.pos;holding [v] l2_),ie_,(xC==lY_)=false,if_,its.toList,ig_,.inl h,ih_,⟨ok.mod,ok.kind,ok.glob,ok.blt,ih!,ok.inj,ok.has,ok.cab,ok.hd,ii!,ok.stk,ok.exf,ok.bs,ok.bsz,ok.noex,ok.exfs,ok.funs,ok.frf⟩,ii_,PS X st t,ij_,some e,ik_,TX X M0 G0 F0 own a8 q1,il_,bK (d:=aL_) rfl,im_,λj hj=>(by cases hj),in_,(by simpa using hl),io_,t.T d x,ip_,[.int 9,.int 9],iq_,Mr a x0 o fd p ml_ (some c),ir_,{s with heap:=h'},is_,⟨rfl,I.turned (t':=s.toks) (λb o Y e=>eb b o Y e) f0 f1 f3 f4 f5⟩,it_,init++(bB_).reverse.map λc=>f0_,iu_,X.mg "range"=none,iv_,"outline",iw_,wi.ri x,ix_,some rT_,iy_,I7.unpinned,iz_,Int->Int->V,iA_,Zy r ta tb,iB_,2 ^ 64,iC_,Dj "tuple" l_,iD_,some sq_,iE_,lastMarks [op,eh] [b,c]=false,iF_,.str "bin",iG_,(by simp only[GW];omega),iH_,.lst ay_,iI_,Qs 0 1,iJ_,lE s ops a w td y5 (some (.lst eJ_)),iK_,Aw t.B5 "preceding" j_,iL_,W.instObj C k_,iM_,wl iG!,iN_,(show False from r),iO_,H a=some eL!,iP_,fT sN!,iQ_,True.intro,iR_,Ab aI_ Af,iS_,A.under (.builtin "type.__call__" ⟨.ref C::us,kw⟩),iT_,f2 Ai mS_ D_,iU_,f1 De aZ_,iV_,Ab F_ Af,iW_,Ah eN_ (Av (Gj (Dh (Ct s3_)) (wT (w2 iW! (Ob w_ aB!) (wl iU!)))) (Cd I_ aB! mZ_) By),iX_,.Call s7_ [] [] pos,iY_,.str "set",iZ_,Str->Option NameKind,i0_,HH.mp nd,i1_,fB E!,i2_,W.codeIn K af qual=true,i3_,.ref t,i4_,⟨_,jk,rfl⟩,i5_,fI (n:=9) rfl,i6_,.ref sl,i7_,Ir 3 Af,i8_,GO ⟨_,rfl,GO h⟩,i9_,Bn al_]
def z'j:String:=z [ja!,.int 9,jb!,aM aH aL aK! aB q_,jc!,z.length,jd!,[.non,.non],je!,aF au! aP,jf!,(show false=true from fx),jg!,compareOp .In,jh!,(show its.toArray.any dR_=its.any dR_ by simp),ji!,qC r fs,jj!,λ_ _ _ _ _=>b1x,jk!,aM aH aL aR! aB q_,jl!,wl (fC eX!),jm!,wl (fC ah_),jn!,backTo ag uH_,jo!,l.most=some n,jp!,List.Pairwise.nil,jq!,bG T.U1 T.V2 p!,jr!,λv _=>v=.bl true,js!,aF P_ aP,jt!,Fi st,ju!,bG T.U2 T.U9 p!,jv!,GP _ hp,jw!,w2 Co al_ nw_,jx!,Ie.m cB,jy!,flt b Y,jz!,Pd kf kp xs,jA!,u++[a0],jB!,aG lM,jC!,z▸w,jD!,(O!,Tj us n),jE!,Ge kf n,jF!,z▸this,jG!,fh _ (ua p hp),jH!,hkx _ z,jI!,mup_ne jy,jJ!,mup_ne u8,jK!,(D.non::u),jL!,λ_ h=>.inl h,jM!,Cm G H G' H',jN!,∀j∈ix,j∉own,jO!,z▸GV (f:=b_) hq,jP!,λa b hm=>?_,jQ!,λx hx y hy=>?_,jR!,(∀v G' H',Cm G H G' H'->Ar K G' d v->Q v H'),jS!,⟨x,rfl,?_⟩,jT!,[(Str.ofString "following",D.fn f),(Str.ofString "preceding",D.fn p)],jU!,DA X own es fs,jV!,(by show 3<=1000;decide),jW!,bS sub qa,jX!,Int->Int->D,jY!,hA.lt x hx,jZ!,⟨_,mup_same⟩,j0!,[fb_,fc!,.int z],j1!,List Bool,j2!,Cm.refl s2,j3!,bnd d ρ,j4!,λv H2 hy=>?_,j5!,(by rw[z]),j6!,s3 c hc,j7!,some gL_,j8!,starEach (e::[]) X.env=dL!::starEach [] X.env,j9!,(backTo ag tb!).any b_=false]
def z'jj:String:=z [ja_,(i!:Int),jb_,V->List V->Hp->VK->Prop,jc_,aF au_ aP,jd_,X_<=sizeLine,je_,aF bx! aP,jf_,Aa 10,jg_,λw hw=>lO rx fx r fs w nf_,jh_,compareOp .NotIn,ji_,.dT kvs,jj_,Ab D_ (Ab D_ (Ab D_ Af)),jk_,f2 Do F_ r!,jl_,aD i3!,jm_,Bn jm!,jn_,GM fin,jo_,ns.map .int,jp_,An 5 (w2 Co by! b8!),jq_,⟨[u],[]⟩,jr_,λρ M R=>R true M,js_,aD am_,jt_,lP (mQ T) d_ rfl,ju_,ForInStep.yield r,jv_,aD bP_,jw_,names.map λ(n,k)=>if nP! then(n,NameKind.cell)else(n,k),jx_,Eo bt!,jy_,t.NotThere,jz_,[(.non,.non)],jA_,(b0::v),jB_,z▸ha,jC_,aG (bX P_),jD_,.inr (.inr e2!),jE_,Ge kp n,jF_,(λv z=>by cases z),jG_,∀a vs,Gd K H a vs->Gd K H' a vs,jH_,.str i,jI_,mup_ne ph,jJ_,mup_ne pe,jK_,upd H p dg_,jL_,λb u e=>?_,jM_,chl rows x,jN_,⟨B6,B7,B8,B9,C2,C3,C4,C5,C6,C7,C8,C9,SY,SZ⟩,jO_,λx=>?_,jP_,kB hN hv hd bv,jQ_,fb ρ,jR_,f2 g fa fb,jS_,⟨G1,ρ,d,di_,e,v3_⟩,jT_,(by kernel_rfl),jU_,DA X own aG_ fs,jV_,Eu X.K fd ps [],jW_,Cm.laid sub hp,jX_,W.num i,jY_,.builtin "isinstance",jZ_,[fb_,fc!,eG!],j0_,.tup [fb_,fc!],j1_,bs.map Value.bool,j2_,mup_ne z,j3_,[aU_,aM!,.int (k0:Nat)],j4_,aw_<=16,j5_,λj hj=>?_,j6_,mup_ne h5,j7_,HC.mp B,j8_,eval bk_ X.env,j9_,[.Subscript bk_ ix p2]]
def z'k:String:=z [ka!,z▸hx,kb!,Gd X.K H a vs,kc!,Dy oG_ oH!,kd!,∀(us us':g_),Ba vs us->Ba ws us'->∀(j:Nat) u u',us[j]?=some u->us'[j]?=some u'->SeqAt.EqAt A.in1 s u u' kc!,ke!,λj=>Dy oG_ oH!,kf!,mG ds es hl,kg!,wl f1,kh!,.ref ad,ki!,Str.ofString "__next__",kj!,cs.map λ_=>.bl true,kk!,IsZip s.heap z TI TO .none,kl!,IsPair s.heap TI (.ref i1) (.ref i2),km!,s.heap.IsTupleIter i1 l1 k1,kn!,(∀c ob,c≠z->c≠TO->c≠i1->c≠i2->s.heap.get? c=some ob->h'.get? c=some ob),ko!,h5.objs.size,kp!,.str "write",kq!,∀o∈ops,Uf o,kr!,kq_<=100,ks!,.str "bin",kt!,(aw_:Int),ku!,cs.map λc=>(aC!:Str),kv!,λ_=>some true,kw!,.int base,kx!,A.deeper (envOfC x bg! s.heap.objs.size ae af),ky!,some S_,kz!,a9q (pT rfl (KJ _)),kA!,Nv P w h es ks,kB!,GO (GO h),kC!,sgn h m,kD!,(W.num a).set p.toNat (.int v),kE!,(by simpa using hl),kF!,Bf G G',kG!,dE a es ep,kH!,[hk_,.int o.n,kH_,o.d],kI!,(by rw[e];simp),kJ!,MA X own es fs,kK!,st.grow x1 m1,kL!,MT X own c ft,kM!,upd H a (dE a a7 (Fx kvs d ep)),kN!,a3v (A:=A.in1) hu I m sub e r hk λo s' I' ho=>?_,kO!,mup_ne c2,kP!,HI.mp hq,kQ!,upd H a (dE a a7 a8!),kR!,mup_ne (GT j5),kS!,!Dy d d',kT!,λw hw=>pA I r1 rx n1 r2 r n2 (by have:=mW X.A;omega) w nf_,kU!,qB I r2 r n2,kV!,(p,kvs,ep),kW!,ho.run I st e λd M1 v G1 H1 u s1 r1 x1 m1 q1 I1 rx=>?_,kX!,hp x GX,kY!,(by rw[HE,IZ];omega),kZ!,(by rw[hp.length_eq];omega),k0!,[M!,pJ_,Z!,some pJ!],k1!,s.root Y,k2!,⟨G',ρ,M',R,sr.grow x m,r,k1,k2⟩,k3!,W.rows.map Bj,k4!,(a5_).map Bc,k5!,some a9!,k6!,Bj rs[k],k7!,.lst ((zX!).map Bj),k8!,.obj C [],k9!,Cz N ps.length q]
def z'kk:String:=z [ka_,Xe K ps.length g,kb_,(by simpa using h),kc_,us.toArray.size,kd_,au.length,ke_,pO rd re rv au (h us us' rv au),kf_,lZ ds es hl,kg_,bS sub q,kh_,wo W.rows i,ki_,(by size_fits),kj_,ZipApart z TI TO i1 i2 l1 l2,kk_,xs.map D.str,kl_,IsPair s.heap TO p q,km_,s.heap.IsTupleIter i2 l2 k2,kn_,GM (QU ?_),ko_,.str "put",kp_,.str "set",kq_,ops.length,kr_,.str "root",ks_,[ks!,fj!],kt_,Str.ofString "",ku_,λc hc=>?_,kv_,Kg xs ys,kw_,some jg,kx_,nY l c k,ky_,rows.map b_,kz_,ks.length,kA_,plc es dr!,kB_,(·.key),kC_,.tup [kp_,a,.int p,.int v],kD_,Nv P w s.heap es.toArray ks,kE_,k==k',kF_,hA.noOb oM6,kG_,XM M G H M' G' H',kH_,.int o.tm,kI_,.refl st.or.sub,kJ_,w2 gm fa fb,kK_,⟨G1,ρ,M1,R,kK!,r1,ps_⟩,kL_,Cu X.K G x v,kM_,dictGet a u>>=_,kN_,(by simp[W0]at hx),kO_,λq hq=>?_,kP_,[root,Bi],kQ_,[(root,.non),(Bi,.non)],kR_,[(root,.fn r1),(Bi,.fn r2)],kS_,.fn a3,kT_,(show its.toArray.any fu_=its.any fu_ by simp),kU_,.ext x2,kV_,q.2.length,kW_,⟨t1,t2,?_⟩,kX_,GS (GT h.1),kY_,hp.map _,kZ_,some hv_,k0_,Fv own Z H,k1_,(u++o::v),k2_,its.map λi=>(i,g i),k3_,[.Subscript o i p2],k4_,λ_ K hK=>?_,k5_,.int (ar_:Nat),k6_,Dg C m M d,k7_,(by simpa using pf),k8_,HB (by simp[big];omega),k9_,GO (GM (QO ho hd ?_))]
def z'l:String:=z [la!,wl fx,lb!,Aa 2 ρ,lc!,l.map Bc,ld!,λK hK=>hK,le!,⟨#[s.cps.toList.getD k 0]⟩,lf!,mirror_perm _ _ _ _,lg!,(0,a0.size,0),lh!,Value.int a t,li!,α->β,lj!,Kg qj_ qk!,lk!,hs os h,ll!,PySem.Fin->Shared->Prop,lm!,HI.mp Y,ln!,hk p hp,lo!,.builtin "sorted",lp!,seqObj "list" us.toArray 0,lq!,(by rw[HU];rfl),lr!,acc.toList,ls!,ds.map Mv,lt!,(Sum.inl a:Key),lu!,(Sum.inr a:Key),lv!,⟨_,rfl,r⟩,lw!,(show Er X.prog X.w H s.heap d cM! from I.hok d _ e2),ly!,W.instObj C dx,lz!,Er P w H h a o,lA!,tY F S λaf A outer s H E hr=>Y hr,lB!,.int ((hS_).length:Nat),lC!,e=x\/H e=some hV_,lD!,[.lst jo_],lE!,aY (hm b _ q λz=>z),lF!,(by cases hh),lG!,M p=some N!,lH!,some (.inl (.inl o.h)),lI!,(by show 4<100;decide),lJ!,rawInt L,lK!,AllBare g',lL!,I.freeC x c e,lM!,HI.mp y,lN!,λz=>Y ex!,lO!,noteFrame cE_ env,lP!,λz=>hc ex!,lQ!,I.hok b u e,lR!,dn.map λo=>h8!,lS!,[r_,R_,S!,Z!,y4,y5],lT!,IA (GT hj),lU!,⟨u',r',?_⟩,lV!,.inl hk,lW!,hs.2 b (II (HP cR_ (I.ok.cab x c yi hc))),lX!,starEach es X.env,lY!,eval a X.env,lZ!,⟨v,H,I,r,h⟩,l0!,h.ch y.h,l1!,hs.2 b (ne b o e),l2!,ys.map λ_=>true,l3!,.BoolOp .And [a] pos,l4!,λbs=>D.bl oj_,l5!,[r_,ey!],l6!,.BoolOp op [a] pos,l7!,dA b1_ λv s1 ⟨x,H1,I1,r1,q1⟩=>?_,l8!,(p6!:Nat),l9!,.IfExp c a b pos]
def z'll:String:=z [la_,q.2.1.map b_,lb_,.lst lc!,lc_,some eb_,ld_,p1 rfl,le_,.lst (nw.map Bc),lf_,⟨rfl,k⟩,lg_,setPending h1 ((Az!).push lg!),lh_,λz hz=>?_,li_,List (Keyed×D),lj_,(by rw[GW,JC];omega),lk_,HW i os c0 c1 c2 t0 t1 t2,ll_,(a,seqObj "list" #[] e1),lm_,ku.toArray.zip cx!,ln_,hk q bg,lo_,(s.heap.push co!).update s.heap.objs.size (Obj.mapSeq (·++cx!)),lp_,[H!,aq_,hM!,ei_,qt_,qt_,none,none,none,none],lq_,h.ch k,lr_,ds.all λd=>(Ma d).isSome,ls_,Iq Mv ds,lt_,.str x t,lu_,(nomatch e),lv_,κ×Value,lw_,List Key×Addr×Value,lx_,Str.ofString "outline",ly_,fs.map b_,lz_,kl.length,lA_,(by rw[hA.cl h hh];simp),lB_,some (.inl ig_),lC_,∃u,h'.get? e=some u,lD_,upd H x o,lE_,cY (f:=fC .non) (d:=.non) rfl,lF_,λh hh=>lF!,lG_,X.env.scope.kind,lH_,X.N.length,lI_,λh hh=>?_,lJ_,Array GenState,lK_,HP cR_ I.ok.above,lL_,λb o e hx=>?_,lM_,λx c e=>?_,lN_,I.base.free b o e n hx,lO_,JK he hd B ?_,lP_,⟨#[],by rw[e];simp⟩,lQ_,Xq n h e cls L ai,lR_,⟨o,ho⟩,lS_,hs.2 b (II lK_),lT_,Kp ai (frA X.stack) s.heap h',lU_,Yp base P w,lV_,.lst dA_,lW_,Inv X O Z H' s',lX_,SP X O D,lY_,("__debug__":Str),lZ_,.bool b,l0_,Az M q E_,l1_,h O s Z H _ I hw,l2_,truthy v,l3_,.BoolOp .Or [a] pos,l4_,(JR.mpr λx hx=>by obtain⟨_,_,rfl⟩:=HK.mp hx;rfl),l5_,Zo X xC en xn C0 L ie ix,l6_,Ud X a pn,l7_,swapsWith he (some (.Name xn xp)) ap.line X.env=pure false,l8_,.bl false,l9_,Qj X.N.length ix v]
def z'm:String:=z [ma!,kl.flatMap (hs S),mb!,⟨h2,H',I.unwish,q⟩,mc!,swapsWith e none pos.line X.env=pure false,md!,.Return ij_ pos,me!,(∀b,M b≠none->b≠a->M' b=M b),mf!,Hp->Prop,mg!,PE X o to,mh!,setItem ov iv v,mi!,PG X tg g,mj!,GV (f:=s_) hq,mk!,I.pin p hp,ml!,pgD cg_,mm!,Mr a x0 o fd p ml_ y6,mn!,λb o Y e=>(sb.2 b Y).trans e,mo!,λb o Y e=>kk b o f1! e,mp!,s.heap.push {cls:=.type "range",data:=.fields #[.int lo t,.int hi u,.int 1 v]},mq!,(f6!).map pgD,mr!,dA mq_ λus s1 ⟨vs,H1,I1,r1,q1⟩=>?_,ms!,[aA!,bM_,"first","many"],mt!,PI X tg iter wi,mu!,.lst r8!,mv!,.lst (acc.map pgD),mw!,bK (d:=bY_) rfl,mx!,Int->Int->Prop,my!,Gi X (binaryOp op) r,mz!,"_law_other",mA!,f dx! (.int j u),mB!,Int->Int->Bool,mC!,"_law_name",mD!,rI Wt λi j=>.int (i*j),mE!,rI Zv λi j=>.int (i / j),mF!,[bO!,aH_,"_law_deep",b3_,"_law_child"],mG!,i ^ j.toNat,mH!,"_law_told_here",mI!,Ru λi j=>.bl mJ_,mJ!,decide (i<=j),mK!,some (.lst fd),mL!,decide (j<=i),mM!,decide (j<i),mN!,ho O s2 Z H2 x y v u _ I2 r1 r2 q2,mO!,kvs.isEmpty,mP!,⟨H,I,q⟩,mQ!,.builtin "len",mR!,[some (pgD q)],mS!,W.isFn K ah!=true,mT!,{s with toks:=s.toks+1},mU!,l.map λ_=>D.bl true,mV!,w2 Co mU_ w_,mW!,Ac w_ mV_,mX!,Bh t.B4 "has_item" 2 (Cs t) j_ c2!,mY!,An 8 (wl (f2 Al w! (As iR_))),mZ!,Ac iS! Ag,m0!,.str "redo",m1!,gA (tJ (zU (fX (fH m0_)) (rQ (bI yU yW gn! aB t_)))) eM_ dM,m2!,Qu P w K mg base A outer s H,m3!,.ins C dx [],m4!,gZ I hg hm ?_ av,m5!,backTo pos tb!,m6!,f2 Ai F_ ae!,m7!,w2 Co dO_ I_,m8!,Bn (wl (f1 De b5!)),m9!,Ac (Ao 1 (Ew t) bu!) Ag]
def z'mm:String:=z [ma_,h2.set ie j7!,mb_,(Ig S).map Op.v,mc_,.Expr e pos,md_,.obj t.B3 (hF ta wa av!),me_,⟨bx,H1,xc ac,q⟩,mf_,assignEach es X.env,mg_,XR X.prog X.w X.K M0 G0 F0 E,mh_,bK (d:=x) rfl,mi_,Int->Int->Int,mj_,Ud X a pn,mk_,Int->Addr,ml_,some ml!,mm_,(by simpa using hu),mn_,fd.length,mo_,Mr a x0 o fd p y5 y6,mp_,[aA!,aO_,f4!],mq_,ha pos O s Z H _ I h,mr_,[aA!,yu!,bM_,"behind","text"],ms_,"message",mt_,[aH!,"fresh"],mu_,[aH!,aO_],mv_,V->Hp->VK->Prop,mw_,"_law_letters",mx_,"_law_rows",my_,.BinOp a op b pos,mz_,[bc!,iA!,bN_,iz!],mA_,[bc!,iA!,"_law_many"],mB_,[bO!,aH_,mz!],mC_,"_law_gone",mD_,[bO!,cs_],mE_,Hl true,mF_,rI (λ_ j=>0<j) λi j=>.int (i%j),mG_,rI Zu λi j=>.int mG!,mH_,[bc!,bN_],mI_,compareOp .LtE,mJ_,decide (i<j),mK_,Ru λi j=>.bl mM!,mL_,Ru λi j=>.bl mL!,mM_,[H!,bI_,mK!,iD_,Z!,y5,y6],mN_,bV rfl (bV A6_ rfl),mO_,its.toArray.isEmpty,mP_,[H!,bI_,ei_,none,none,none,none],mQ_,Ug s.heap x dx C mA,mR_,W.plainGet_of hg,mS_,f2 Ai l_ ae!,mT_,show Kj f v ((k,x)::r)=(if k=f then(k,v)::r else(k,x)::Kj f v r)from rfl,mU_,Aw t.B4 "parents" j_,mV_,Ac al_ Ag,mW_,Ac aP_ Ag,mX_,PE X o ta,mY_,some (.lst ct!),mZ_,wl (fC A!),m0_,gE jP rfl T.Q6 rfl T.R8 bP mF E!,m1_,.List es pos,m2_,gS T.S7 rfl,m3_,upd ri_ x m3!,m4_,.str "drop",m5_,Mk X.K C f,m6_,Dz t.B3 "outline" j_ b5_,m7_,Ee.cons (j:=1) Ee.nil,m8_,λ_ _ _ _ _=>bF (i:=0) (show([cs_,aH_]:List Str).Nodup by decide+kernel) rfl b!,m9_,f2 Ai w! r!]
def z'n:String:=z [na!,f2 Ai w! D_,nb!,Ac j_ mV_,nc!,aC aK! aK,nd!,bootBuiltins x=some eS_,ne!,.int c u,nf!,ws.length,ng!,v+(n:Int),nh!,(i:Int)+(m:Int)*1,ni!,(items.toList.drop (sIx items.size 0 lo)).take tM_,nj!,Ah (Av (Jl (wT (Bh t.B4 "has" 2 (Cj t) I_ c2!))) (Rr t.NotThere E (Uj 1)) By) eO!,nk!,.Slice lo hi none p2,nl!,HT.sIx xs.length xs.length hi - HT.sIx xs.length 0 lo,nm!,λb ob q=>GQ _ q,nn!,.Subscript a b pos,no!,aF P_ c8!,np!,sliceBounds lo hi none n,nq!,fC (.int 5),nr!,aj.endLine==ag.line,ns!,acc++its,nt!,aO gv_ d_ rfl (aC E! (aC (aW aN bE aB aK!) aK)) af_,nu!,(by rw[GW];omega),nv!,Ds (Ao 1 Fo bu!),nw!,ks.map kV,nx!,aF y! jc_,ny!,aC aB aK,nz!,An 2 (wl ny_),nA!,(Cd by! al_ gs!),nB!,w2 Co j_ nA_,nC!,World->Heap->Prop,nD!,d.params.defaults=[],nE!,.call eZ! nD_,nF!,λf vs=>PySem.call f vs,nG!,.bool true,nH!,Bm (Ao 4 Ik (Ac j_ ta_)),nI!,Lw (Fc uQ_),nJ!,bG T.U1 T.V0 p!,nK!,Ab (f2 Al uX_ l_) Af,nL!,W.fnOf x qual jt! bz! bg! .none kV bo pm an af ct,nM!,⟨o.slots,e⟩,nN!,aY (ne b _ e),nO!,aY (by simpa using hc),nP!,k==gE_&&env.scope.kind==.function&&env.kindOf n==some .cell,nQ!,∀b∈fp,Ii X O H2 b,nR!,Xx X scope cl,nS!,t.HandsError,nT!,h.f _ _,nU!,List (L2.Key×V),nV!,K.p _ _,nW!,V.ref p,nX!,λi d q _=>?_,nY!,Xs nl ix ρ,nZ!,hw Z G H Q ρ d er e k,n0!,cF ac! bL au_ bf! q_,n1!,cI (sc:=Ae Oc) rfl v_,n2!,(n2_).resolve_right q,n3!,k G' H' s',n4!,if x=a then l else W.txt x,n5!,Str.ofString "written",n6!,⟨G,ρ,.bl x,er,kP e1,v3!⟩,n7!,(by rw[e1];exact Y),n8!,x∈W.its,n9!,f1 g fs]
def z'nn:String:=z [na_,aM aH aL a1! aB q_,nb_,Js CX P w K mg base N qual scope f af A outer s H E,nc_,Ip X eS_ r,nd_,bootBuiltins x=some dP!,ne_,Ep 1 [] (Eo w!) N_ ai! tD!,nf_,(by simpa using hw),ng_,aC bw! aK,nh_,Lw (Eo w!),ni_,An 2 (Ao 1 (Em t) bu!),nj_,An 4 (Ix (Ac (wl (As (Ab D_ b5!))) Ag)),nk_,HT.sIx xs.length 0 lo,nl_,bU cD eG rfl T.Q7 dO (aC aR! aK),nm_,f2 Bb iT_ (fC dL_),nn_,f2 Al r! (f2 Bz l_ w!),no_,Ab (f1 Bt (Ab l_ (Ab tV_ Af))) Af,np_,xN (nS b9_ (kE (dZ bw_ eM bx! bv_ rfl))),nq_,cI (sc:=Ae Px) rfl v_,nr_,λx1 x2=>x1++x2,ns_,bU cD eG rfl T.Q7 dO c6_,nt_,n<=sizeLine,nu_,An 3 (wl jk_),nv_,Ds (w2 Co j_ jl!),nw_,wl (fC uI_),nx_,wl (fC (.tup [gc_,iF_])),ny_,f2 Ai w! ae!,nz_,An 3 (wl (As uM_)),nA_,wl (fC uO_),nB_,(Str->Option Value)->Heap->Prop,nC_,Cd nB! al_ (Ix (Ac aP_ (Ac aP_ (Ac aP_ mW_)))),nD_,⟨bd_,[]⟩,nE_,λr s'=>r=.ok (.ret gC!)/\OldK ak.heap s'.heap/\s'.os=ak.os/\AllBare s'.gens,nF_,Bm (Ao 4 Ga uP!),nG_,Bm (Ao 4 Ik (Ac j_ gp!)),nH_,⟨t,rfl⟩,nI_,Ak k callerA,nJ_,cE (dR T) d_ p! c8!,nK_,aF js_ aP,nL_,Option.none,nM_,⟨o,e⟩,nN_,λm hm=>hm,nO_,λ_ _ _ q=>q,nP_,f1 Ji (Ab aP! Af),nQ_,Inv X O Z H2 s2,nR_,Ou NL.length ix Z,nS_,aD (dC aK! dU c4!),nT_,h.p _ _,nU_,∀x∈xs,∃k,Dk x=some k,nV_,ds.drop n,nW_,some cy!,nX_,W.its.Nodup,nY_,kG.mp hq,nZ_,if b∈Jb own Z then none else G' b,n0_,n∉W.its,n1_,if x=n then[]else W.txt x,n2_,(e7_).mp hx,n3_,setT W a l,n4_,⟨G,ρ,x,er,e1,λG1 H1 s1=>?_⟩,n5_,fT fa ρ,n6_,k1.length,n7_,a1a h.ok,n8_,(by show 1<=1000;decide),n9_,(by rw[GW,GW];omega)]
def z'o:String:=z [oa!,.inr (.inr ⟨al!,rfl⟩),ob!,bS sub qb,oc!,mup_ne h3,od!,Dk x=some kx,oe!,(jX_).set p.toNat gf!,of!,Ad->Option oe_,og!,sub.seq q,oh!,⟨o,B,J⟩,oi!,λq hq y hy q' bg e=>?_,oj!,g++[.tup jZ_],ok!,.dct (Aq k5 s c) e5,ol!,(by rw[xk];simp),om!,starEach (a::[]) X.env=dF_::starEach [] X.env,on!,some wx!,oo!,[G_,bk!,K_,d5_,some tx,some cz,on!,some gz_,r9],op!,au.mono x2.g,oq!,x.sub.free hp,or!,B.ok G0 F0,os!,Aq k2 n (.fn r1),ot!,Aq k3 n (.fn r2),ou!,.If c b1 b2 pos,ov!,mup_ne c3,ow!,K3 c (ow_).1 (ow_).2.1 (ow_).2.2,ox!,xl c hc,oy!,gn c j6!,oz!,w1 _ v1,oA!,w1 _ v3,oB!,h5.mono x.g,oC!,Dx ds.length j,oD!,(by rw[z,g5]),oE!,⟨oi ip,?_⟩,oF!,Js Pf P w K mg base N qual bg! ae af A outer s H E,oG!,na d hd,oH!,es.getD j .non,oI!,us'.toArray,oJ!,Hn W x rows',oK!,Ff X.K H a vs,oL!,⟨ho,rfl,k⟩,oM!,Az M a1 oL_,oN!,ad==sysModules,oO!,Sum.inr z,oP!,Addr->Option w7!,oQ!,[G_,K_,bD!,cD!],oR!,.dct (Aq k1 i x) (Fx k1 i e1),oS!,.tup [.str a,.str b],oT!,HN _ rfl,oU!,BX s.heap l1 l2,oV!,.type "zip",oW!,(λv y=>by cases y),oX!,λc o _ _ hc e _=>⟨o.slots,kp c o hc e⟩,oY!,some (.lst c7),oZ!,c7.length,o0!,λd o' hd e'=>kp d o' (λhm=>?_) e',o1!,aY (ne c _ e),o2!,cs.map Qk,o3!,⟨cs.toArray⟩,o4!,[H!,aq_,ax!,bl!,bV!,bG_,cG_,kw_,fk_,some V!,none,none],o5!,Gc K mg x st ps,o6!,some (Qi oth),o7!,(nY l c k).binds b,o8!,ns.map D.int,o9!,[H!,aq_,ax!,bl!,bV!,bG_,cG_,kw_,fk_,some V!,some sg,none]]
def z'oo:String:=z [oa_,(by rw[HE];omega),ob_,mup_ne p1,oc_,[G_,bD!,K_],od_,hA.noOb oM2,oe_,Option Int,of_,⟨r,f,p',g1,g2.keep (az _ dk_) (az _ d1!) (az _ d1_),g3,g4,g5⟩,og_,(q.1,q.2.1,q.2.2&&!decide (q.1∈cy)),oh_,setT W i (Gb g a5_),oi_,.dct (Aq k6 s A!) e6,oj_,bs.all id,ok_,setT W i wq!,ol_,List.range n,om_,cs.zipIdx k0,on_,[G_,bk!,K_,d5_,some tx,some cz,on!,some gz_,some cd_],oo_,(.tup j3_,.str aC!,true),op_,GD X.K g bnd,oq_,hO.mono a!,or_,Aq k1 n pl,os_,swapsWith e (some dl!) pos.line X.env=pure false,ot_,.dct ot! e3,ou_,ρ.set i nW_,ov_,s2 c hc,ow_,jf c hc,ox_,gn c hc,oy_,mup_ne h4,oz_,w1 _ v2,oA_,.inl ⟨rfl,vs,Ff.of h3⟩,oB_,(by rw[z,hA.r1]),oC_,(by rw[z,g4]),oD_,w1 a2 h3,oE_,A.deeper (envOfC qual bg! s.heap.objs.size ae af),oF_,(by rw[eH xn];exact u1),oG_,ds.getD j .non,oH_,us'.toArray.size,oI_,if x=n then _ else _,oJ_,if x=x then _ else _,oK_,Ac kg! (Ac (wl f2) Ag),oL_,.dct or_ (Fx k1 n e1),oM_,cN.mp z,oN_,br.lookup y,oO_,Sum.inr z,oP_,Av _ _ _,oQ_,A'.handled,oR_,⟨_,dE!,rfl⟩,oS_,(a==k||b==k),oT_,⟨_,rfl,?_⟩,oU_,.str "undo",oV_,GQ _ oT!,oW_,λc o _ _ hc e _=>kp c o hc e,oX_,λc o hc e=>⟨o,kp c o hc e⟩,oY_,λc ps e=>lP_,oZ_,I.hok c o e,o0_,λ_ e'=>e',o1_,letters.length,o2_,aY (ne d _ q),o3_,.str letters,o4_,Db its cf_ none,o5_,Js Pf P w K mg base N x bg! ae af A outer s H E,o6_,Tz n es,o7_,W.mg_of X G a,o8_,Sx rows,o9_,Uq rows]
def z'p:String:=z [pa!,[.tup [bU!,.int (1+m0%5)]],pb!,List L2.Key,pc!,LC ho hd (GM (b8l hu q2 hk (GM (LC ho hd ?_)))),pd!,[aU_,aM!,.int (k:Nat)],pe!,GM (tS hu hk λtk=>GM yl_),pf!,U_<=sizeLine,pg!,Da (D.str k::r) 0=_,ph!,HB (by simp only[HA];omega),pi!,.tup (.str k::a::b::c::r),pj!,some (.inl (.inr "bin")),pk!,Aq kvs d x,pl!,hH.trans B,pm!,Str.ofString "redo"==Str.ofString "redo",pn!,D->Mh->Prop,po!,hw Z G H Q ρ M R st e k,pp!,(Ai o.v aA_).bind λx=>Ai x K!,pq!,λk=>.bl hl!,pr!,[R_,S!,y],ps!,.dct acc ep,pt!,[eg!,S!,none],pu!,λx=>?_,pv!,kget wd o.nm,pw!,Ny .str aV_ [],px!,[(root,D.non),(Bi,D.non)],py!,.obj t.B4 fu!,pz!,[(root,D.fn r1),(Bi,D.fn r2)],pA!,Bo dZ! kS_ hs_,pB!,α->Prop,pC!,.dct q.2.1 q.2.2,pD!,kget q.2.1 y,pE!,os.map Op.nm,pF!,some x.v,pG!,Value×Value,pH!,upd H s.heap.objs.size zg_,pI!,[M!,zs!,Z!,some pH_],pJ!,.int pK!,pK!,(bX_:Nat),pL!,((bX_+(m+1):Nat):Int),pM!,[M!,hx!,Z!,z],pN!,B.ok M0 G0 F0,pO!,⟨B,J⟩,pP!,.obj C (Bo x y fs),pQ!,Ki M3 d y v,pR!,Dt 1 [1] _ _ _ _,pS!,rs.take k,pT!,Al hv_ aI!=_,pU!,.dct (k3 (.lst (rows'.map Bj)) du! hy_) e,pV!,(by rw[J];simp),pW!,Wv P w K ps.length g,pX!,((ar_:Nat):Int),pY!,.lst [Bj bA_],pZ!,(d==sysModules)=false,p0!,!decide (x=i),p1!,decide (x=root\/x=Bi),p2!,Aa 2 ρ=some ed_,p3!,(by rw[hA.rw_];simp),p4!,.fn (qa a),p5!,[B!,M!,lc_,fA!,o4,o5,o6,o7,o8,o9],p6!,ms.length,p7!,HT.lexLt ms ns,p8!,List.range aw_,p9!,g ρ=some b]
def z'pp:String:=z [pa_,hi - lo,pb_,Jp P w s.heap x u,pc_,Option Nat,pd_,.tup cI!,pe_,⟨a',b',c',e',HQ _ hm⟩,pf_,.str k',pg_,.tup (.str k::a::r),ph_,.tup (.str k::a::b::r),pi_,f3 ρ=some c,pj_,[.str k,a],pk_,(k=="undo"||k=="redo"),pl_,Str.ofString "undo"==Str.ofString "undo",pm_,ops.map Op.key,pn_,List D->Mh->Prop,po_,.bl (Gu o.d).isSome,pp_,st.mr.ext x,pq_,λ_=>g,pr_,(∀o∈os,DG o.d),ps_,λd M2 v G2 H2 r2 x2 m2 q2=>k d M2 v G2 H2 r2 cJ_ m2 q2,pt_,Az M p c,pu_,⟨o,h⟩,pv_,⟨⟨o,q o z1,z2,z3⟩,z4⟩,pw_,(∀b,M b≠none->M' b=M b/\rl b=.oth),px_,GM (NW hT X!),py_,(by rw[mup_same];simp),pz_,"numbers",pA_,[cY_,iz!],pB_,if c=o then _ else _,pC_,Im M1 d,pD_,(cJ_).trans x3 m2,pE_,Pj wd os,pF_,λy hy=>hd y cw_,pG_,λy hy=>hp y cw_,pH_,.int zt!,pI_,(bh!).map Op.v,pJ_,some (.lst pI_),pK_,((bX_+m:Nat):Int),pL_,.inr (s.noF z),pM_,MS X own a8 st q1,pN_,sr.grow x m,pO_,(Str.ofString "undo"==k||Str.ofString "redo"==k),pP_,D.str.inj z,pQ_,W.its.map λi=>(i,.lst k4!),pR_,Io P w K own M0 G0 F0 M1 G1 H1 Z ρ,pS_,.int ((k+1:Nat):Int),pT_,MI X own tg iter fi,pU_,(by rw[hA.rt];simp),pV_,aw wn zR!,pW_,[some ej!,K_],pX_,.lst ((ek!).take a),pY_,W.rows.filter λq=>decide fz!,pZ_,Oa s.heap d es ep,p0_,.lst [p],p1_,(λi v=>∃e,es[i]?=some e/\v=e.key),p2_,.dct (Aq bZ_ a lb_) e,p3_,(by simpa using rf),p4_,((n:Nat):Int),p5_,.bool (lexLt ms ns),p6_,KA.mpr q_,p7_,λK hK=>?_,p8_,f ρ=some a,p9_,[B!,M!,fA_,bk!,y4,none,none,none,none,none]]
def z'q:String:=z [qa!,some (.int (at_:Nat)),qb!,.lst ((el!).take at_),qc!,∀k h1,SB kd a0 h1->1<=k->k<=n->Up r z_ k->Q (some k) h1,qd!,cN! / 2,qe!,fa ρ=some y,qf!,Gu x.d=none,qg!,Az N w E_,qh!,⟨0,?_⟩,qi!,(qh_).map kf,qj!,List (Addr×D),qk!,cs.map s_,ql!,O++[eo!],qm!,ku.length,qn!,λx h=>(by cases h),qo!,(by rw[HE,hw.len];rfl),qp!,(by have:=hw.b0;omega),qq!,(by have:=hw.b2;omega),qr!,Iq eo_ ds,qs!,Hw g q.2,qt!,(cn_).push co!,qu!,b5f em ed nd z rfl rfl rfl rfl rfl rfl rfl Y,qv!,(λb Y=>by rw[lm!];exact gi),qw!,(λq=>nomatch q),qx!,seqEpoch_at ng rfl ?_,qy!,Iu fL! (Ld h3 p.1.1)<Iu fL! (Ld h3 q.1.1),qz!,Str.ofString "ours",qA!,.tup (p.1.map kV),qB!,(Str.ofString "taken",.fn ta),qC!,∀b xs,H b=some bJ!->H' b=some bJ!,qD!,∀{ae:Addr} {af:Value} {A:Around} {outer:V_} {s:Shared} {H:Hp} {E:XK},Ak k oE_->Tp (oF!).nox [] σ bz! q,qE!,W.methodObj ah! (.ref y),qF!,∀b u,b≠e->h.get? b=some u->h'.get? b=some u,qG!,bK (d:=.int 1) rfl,qH!,Un fs ex H H1 h B,qI!,.obj t.B3 [er!],qJ!,mup_ne (GT yf),qK!,.obj t.B3 hQ_,qL!,((n - 1 - i:Nat):Int),qM!,h.get? b=some o,qN!,Az eu! p (.dct (Aq kvs y bC!) a8!),qO!,(by rw[hp];simp),qP!,X.env.kindOf x=some .cell\/X.env.kindOf x=some .free,qQ!,.lst ((hW!).map Op.v++[o.v]),qR!,I.ok.noex b o e,qS!,mup_ne (GT aw),qT!,[(.int o.h,.fn q)],qU!,[VJ,.ref L,.none,rawInt L,.none]++(if pl.isEmpty then List.replicate 6 co_ else pl),qV!,(B.push ob).update e qV_,qW!,λi x v e1 e2 e3=>?_,qX!,HB (show(Value.ref T != Value.none)=true by simp),qY!,(λ_ z=>nomatch z),qZ!,⟨_,a7,be,hL,r'⟩,q0!,L'.map (·.1.2),q1!,⟨o.slots,by rw[oth b (λz=>F' (z▸Y))];exact eb⟩,q2!,LO (KO lp _),q3!,oth e (GT xb),q4!,[r_,R_,some (.int k),Z!],q5!,Obj.mapFields (·.setIfInBounds 3 q3_),q6!,∀b u,s.heap.get? b=some u->h'.get? b=some u,q8!,e1.trans e2.symm,q9!,I.hok b ob e]
def z'qq:String:=z [qa_,[B!,M!,fA_,bk!,y4,hE!,qa!,y,some le_,none],qb_,Option Nat->SortSt->Prop,qc_,rows.length,qd_,a3i hL dv0 nI bj,qe_,[R_,B!,S!,some x.v],qf_,GP _ hz,qg_,Az qg! wt E_,qh_,L.map s_,qi_,[none,none],qj_,cs.map λc=>.fn c.1,qk_,Addr×D->Prop,ql_,Ak k X.A.in1.in1,qm_,λd q=>Ma d=some q,qn_,∀H':Hp,H' a=none->Ii X O H' a,qo_,seqObj "list" #[] e1,qp_,(by have:=hw.b1;omega),qq_,Paired cO_ ds us,qr_,(by rw[JP];omega),qs_,ρ[i]?=some nW_,qt_,some (.lst [bU!,bU!,bU!]),qu_,Paired.mapP ok.1 λ_ _ z=>z.1,qv_,λv d=>Hd h3 v (Mv d).1 (Mv d).2,qw_,mixKind prog w,qx_,Rp ft ρ M true,qy_,(Vz λys Q H=>∀l,H l=none->Q (.ref l) (upd H l aR_)),qz_,Str.ofString "taken",qA_,Str.ofString "waiting",qB_,(∀f,Nr (fs.lookup f) (mA f)),qC_,∀b,M b≠none->M' b=M b,qD_,W.fnOf "__init__" qual jt! bz! bg! .none kV bo pm an af ct,qE_,bK (d:=hG!) rfl,qF_,jM b1! (hA.nob hM1) (bK (vC o)) (a3k hA),qG_,.tbl (ps++qg),qH_,Az M a (.obj t.B3 []),qI_,.obj t.B3 hQ!,qJ_,(by show _<100;simp),qK_,mup_ne (GT SX),qL_,List.range b0_,qM_,Az M p (.lst (xs++[v])),qN_,(X_:Int) - 1 - cW_,qO_,revObj l qN_,qP_,a.old x o l m e,qQ_,Dz t.B3 "outline" j_ b5_ fP_ M2 _,qR_,mup_ne (GT at_),qS_,∀h' T,k_<=T->XF n h' e T cls lJ!->Kp [e] fR_ s.heap h'->h'.FunFrames base bo!->Q () {s with heap:=h'},qT_,.dct (er_++qT!) a8!,qU_,(·.setIfInBounds 1 (Value.ref h0_)),qV_,Obj.mapFields qU_,qW_,XF n s.heap e T cls fl,qX_,[r_,none,none],qY_,bK (f:=Aa 0) rfl,qZ_,Obj.mapFields (·.setIfInBounds 3 co_),q0_,f2 Al dK_ F_,q1_,hR M' ii ij je,q2_,oth b (λz=>by subst z;rw[ht]at eb;cases eb;exact uz _ lp),q3_,fo.elim Value.none λf=>rawInt f,q4_,(by rw[<-e];exact hl),q5_,λb u e=>?_,q6_,T∈ai\/k_<=T,q8_,storeName X.env x u,q9_,λc w' hc q=>(hs.2 c ?_).trans q]
def z'r:String:=z [ra!,⟨fS!,fS!,I.base.free,lL_,I.base.tups,I.base.frzs,I.base.tbls⟩,rb!,(by simpa using I.len),rc!,Az M p (.dct (lR!++[h8!]) a8!),rd!,⟨(hs.2 p.1 ne).trans e,n,ne,nf,d⟩,re!,.type "ValueError",rf!,.type "Exception",rg!,Bool->Hp->Prop,rh!,[r_,S!,aW!,hq_,y4],ri!,backTo pos lX!,rj!,bK (d:=ab!) rfl,rk!,ta Z H λx H1=>tb Z H1 λy H2=>R x y H2,rl!,∀v u s2 x y H2,Inv X O Z H2 s2->Bp x v->Bp y u->R x y H2->wpAny e! X.A (f v u) Q X.xe s2,rm!,starEach [ex] X.env=rl_,rn!,.Raise (some (.Call (.Name x np) [ex] [] ag)) none pos,ro!,("__classdict__":Str),rp!,.Constant .none j pos,rq!,eval cU! X.env,rr!,bootBuiltins x=some u,rs!,op==CmpOp.In,rt!,vz.mem_iff.mp ho,ru!,λy=>y=D.bl true,rv!,QN (k _ _ he) (GO (hc▸q)),rw!,⟨H1,I1,q1⟩,rx!,List.replicate n none,ry!,h O s Z H Q I hw,rz!,some (.Name xC cp),rA!,Yq X bQ_ (xT X O D (.ExceptHandler rz! (some en) rz_ hp)),rB!,(l.filter λx=>p x||q x),rC!,ks.map D.int,rD!,[r_,ei_,none],rE!,(by rw[hp.length_eq];exact hS),rF!,.Return none pos,rG!,Pj (Ny .str (Ig S) []) (Ig S),rH!,St->Hp->Prop,rI!,Js lU_ P w K mg base N x bg! ae af A outer s H E,rJ!,.Subscript o i pos,rK!,ho O s Z H _ I h,rL!,a7o (a:=ab!) rfl (b7r h λM' o rl hO fr=>?_),rM!,PE X e (Yx X.prog X.w X.K M0 G0 F0 own f),rN!,dA cr_ λv s1 ⟨x,H1,I1,r1,q1⟩=>?_,rO!,.While c body [] pos,rQ!,GV (f:=b_) h,rR!,letOwnedTupleGo tg b2_ u,rS!,PyData.tuple ip_,rT!,.int ((d+1:Nat):Int),rU!,D.int ((d:Nat)+1),rV!,.Pass ⟨0,0,0,0⟩,rW!,((init.length+1:Nat):Int),rX!,Mr a x0 o (fd++ck!) p ml_ y6,rY!,[aA!,aO_,"ahead","follower"],rZ!,[aA!,"names",aO_],r0!,.Name "range" p,r1!,starEach [a] X.env=[dF_],r2!,[aA!,bM_,"first","many","k",aO_],r3!,starEach [b] X.env=[iv!],r4!,[f3!,"words",cs!],r5!,[f3!,iv_,"left_out",cs!,aO_],r6!,[aH!,f3!,f4!],r7!,.For tg iter body [] pos,r8!,(eG_).map pgD,r9!,λb Y=>(ix!).1]
def z'rr:String:=z [ra_,λj y v' e1 e2 e3=>?_,rb_,some (.inr [.inl o.h,.inl o.n]),rc_,z.sameBut hs (cne y c e),rd_,⟨Y b h,x.ge b h⟩,re_,.type "BaseException",rf_,.type "object",rg_,qs.map Op.nm,rh_,bK (d:=.int 2) rfl,ri_,upd H1 dx hV_,rj_,α->Shared->Prop,rk_,V->V->Hp->Prop,rl_,[(false,eval ex X.env)],rm_,λv ak=>wpAny e! X.A vq_ (λu am=>wpAny e! X.A (f v u) Q X.xe am) X.xe ak,rn_,λ_ Z H=>te Z H λ_ H1=>R ab_ H1,ro_,.Constant bp_ j pos,rp_,∀M',Cf t M' a ta wa out [] [] ca->R .non M',rq_,(by rw[I.ok.glob];exact I.mod.glob.keeps I.bk),rr_,ms.map Op.nm,rs_,op==CmpOp.NotIn,rt_,.type "BaseException",ru_,dA (ha O s Z H Q I h) λc s1 e=>?_,rv_,dA b1_ λc s1 ⟨H1,I1,q1⟩=>?_,rx_,∀a pn oe c,gT!∈pn->oe.cls=.ref c->PE l6_ he λZ H Q=>Z[ie]?=some ky!/\∃v,hv c=some v/\Q v H,ry_,[r_,ey!,some K!,none],rz_,[.Assign [.Name xn xp] he ap],rA_,dA (hc O s Z H _ I h) λd s1 ⟨H1,I1,q1⟩=>?_,rB_,(by simpa using hs),rC_,Df (Oj dO_) be! (AA t),rD_,([]++kl.flatMap (hs S)).map Op.v,rE_,.Try body [.ExceptHandler rz! (some en) rz_ hp] [] [] tp,rF_,Cf t M a ta wa .non S kl ca,rG_,(λ_ s'=>∃h2 H',Inv X O h2 H' s'/\Q h2 H'),rH_,bK (d:=.non) rfl,rI_,gV b1! hob hF4,rJ_,∀M' o rl,OS t M' a o rl W->me!->R av! M',rK_,eval i X.env,rL_,∀M',E t.NotThere M',rM_,Addr->Option D,rN_,[.Name x pos'],rO_,[.Name en p2,ip!],rP_,(by rw[z];exact Y),rQ_,(∀b∈fp,Ii X O H b),rR_,CS X O Z tg R,rS_,["enumerate","zip","dict_itemiterator","dict_reverseitemiterator","odict_iterator","itertools.zip_longest","itertools.pairwise"],rT_,.int (d:Nat),rU_,⟨rfl,λys hy=>by rw[I.list_inj hy hq];exact hx⟩,rV_,λq=>T.T q.1 q.2,rW_,hl O s Z H _ I h,rX_,[aA!,aO_,f4!,"ahead","follower"],rY_,(((pa_).toNat:Nat):Int),rZ_,[aA!,bM_,"parent","sibling","place"],r0_,[aA!,yu!,bM_,"behind","text","ahead","k","sign",aO_],r1_,Ah (Fj pC (pB t)) i9_,r2_,starEach al! X.env=[dF_,iv!],r3_,.Call r0! al! [] pos,r4_,[f3!,"words","names",cs!,aO_],r5_,bK (d:=.lst mq!) rfl,r6_,[aH!,ms_,"fresh",cs!,aO_,"same"],r7_,[aH!,"fresh","times",aO_,"time"],r8_,[aH!,"many","found"],r9_,[aH!,cs!,"known"]]
def z's:String:=z [sa!,[aH!,ms_,"many",cs!],sb!,T.obj _ _ nu,sc!,[aH!,bM_,iv_,"found","coming","page","child"],sd!,[B!,R_,ix_,some mv!,some c],se!,acc++T.T b2! c,sf!,[bc!,iA!,bN_,iz!,cY_,"_law_items_here",aH_,mz!,"_law_kinds","_law_kind","_law_sign","_law_names"],sg!,[bc!,iA!,"_law_many",bN_,"_law_counts","_law_times",bc_,cY_,iB!,eH_],sh!,[bN_,b3_,cs_,iB!],si!,"_law_parent_here",sj!,intBits_le_64 B J,sk!,[bO!,aH_,mz!,"_law_above"],sl!,binaryOp .Mult,sm!,[bN_,bO!,"_law_undone_here",cs_],sn!,[bc!,bN_,b3_,bc_,cs_,"_law_names",aH_],so!,[bc!,bN_,"_law_hand",bO!,mH!,aH_,"_law_refused","e",b3_],sp!,Dp (Dj "bool" l_),sq!,compareOp .NotEq,sr!,λx y H Q=>y=.non/\Q (.bl (decide (x=.non))) H,ss!,λx y H Q=>r x y H Q\/r' x y H Q,st!,hc O s3 Z H3 _ I3 q3,su!,f2 Bs l_ bT!,sv!,⟨o.h,o.n,o.tm,.tup [g9_,p1,p2,.non]⟩,sw!,(show False from e),sx!,.builtin "abs",sy!,[dH_,.fn t.A8,.fn t.A9],sz!,.int (x.cps.getD 0 0:Nat),sA!,[H!,bI_,none,none,none,none,none],sB!,W.plainGet K C name=true,sC!,Option Value,sD!,Value×List Value->Shared->Prop,sE!,some (.builtin "object.__setattr__"),sF!,Ol (Ek b5_ b5_ Mw),sG!,W.findIn K ab_ "__init__"=some eK!,sH!,lE s ops a w td dC_ (some (.lst mq!)),sI!,Dh (fT (f2 Ap v! bT!)),sJ!,jQ wi (hm y hy),sK!,(show∃t,u=Value.int i t from r),sL!,(show u=Value.ref a from r),sM!,[H!,none,none,none,none,none,none,none,none],sN!,f2 Fb w! v!,sO!,An 4 (AD (wT sN_) I_ iM_),sP!,Cd mU_ w_ aB!,sQ!,(by rw[e];exact iQ_),sR!,Aw t.B4 "numbers" j_,sS!,Cd sR! w_ (Vr mW_ (wl ge_)),sT!,lE he! ep! a w ct! y5 y8,sU!,.Attribute e f pos,sV!,Aw t.B4 "written" j_,sW!,Cd sV! eL_ (wl bt_),sX!,.Call (.Attribute e m aj) args [] pos,sY!,c0i (gE a6p rfl T.Q6 rfl T.Q3 bP b2s E!),sZ!,Av (wT (Bh t.B5 "holds" 2 (Hb t) (w2 Co gi! w_) mZ!)) (Cd (Aw t.B4 "hidden" j_) iS! mZ_) By,s0!,.Tuple es x1 pos,s1!,I1.laid (t':=s1.toks) (λb u e=>GQ _ e) x_ ?_,s2!,Av (Dh (fT (f1 Ax c3!))) (Cd w_ s1_ (wl gn_)) By,s3!,aO (iG T) d_ rfl (aC (dC E! dU c4!) aK) at!,s4!,aO (iG T) d_ rfl b7! at!,s5!,λv H2=>v=.non/\Q fM! H2,s6!,Dh (fT (f2 Bb bu_ (fC dL_))),s7!,dA mq_ λus s1 ⟨vs,H1,I1,r,q⟩=>⟨I1.kIn,?_⟩,s8!,starEach aG_ X.env]
def z'ss:String:=z [sa_,[aH!,aO_,iv_],sb_,step x H5 y5,sc_,HD _ (HD _ (kH Y e)),sd_,I7.pin (b,o) sc_,se_,c9j ha Y I h λv u s2 x y H2 I2 rx ry q=>ho O s2 Z H2 x y v u Q I2 rx ry q,sf_,.int br_ s.toks,sg_,⟨.int br_,H,aX_,I!,q⟩,sh_,[bN_,"_law_last",cs_],si_,[bO!,aH_,si!,sj_,mx_,iB!,bc_],sj_,"_law_sibling",sk_,Ru λi j=>.int (i - j),sl_,[bO!,cs_,eH_,mC!,"_law_good",mx_,iB!,bc_,"_law_new",mC_],sm_,(wi.ri _).mp rQ!,sn_,T.nd wi.rnd bs_,so_,up (T.mem bs_ h),sp_,fC (.int 60),sq_,.int (j:Nat),sr_,λx y H Q=>y=.non/\Q (.bl (!decide (x=.non))) H,ss_,f1 Eb (Ab (En l_ Au c0_) Af),st_,Vu r r' ta tb tc,su_,bB (eV (dN rfl rfl XZ)),sv_,⟨H,aX_,by rw[wG r];exact q⟩,sw_,.lst (fd.map Op.v),sx_,(λxs H Q=>∃i,xs=[cq_]/\Q (.int iI!) H),sy_,.builtin "ord",sz_,(λxs H Q=>∃x,xs=[.str x]/\eJ!=1/\Q sz! H),sA_,⟨.int i!,H,aX_,⟨_,by simp only[GW];rw[ar]⟩,q⟩,sB_,W.hasDictIn K C=true,sC_,(if(eJ_).length<=big then Option.map D.lst (Ei _ _ _ bG! eJ_)else none)=_,sD_,Ei N_ ai! b4! bG! eJ_,sE_,c1!<=sizeLine,sF_,Result->Shared->Prop,sG_,W.makesIn K C=true,sH_,λy hy=>hx y cw_,sI_,Ah (Rq (Ku 1 v!)) (An 2 (w2 Co c1_ I_)),sJ_,(ct!).any λd=>Dy d x,sK_,(show∃t,u=Value.str x t from r),sL_,Pj (Ny .str iP! []) iP!,sM_,[H!,bI_,r_,none,none,none,none,none,none],sN_,Bh t.B4 "has" 2 (Cj t) j_ gh!,sO_,.ins C dx (Kj f y fs),sP_,Bm (Bh t.B5 "put_behind" 3 (Cr t) (w2 Co cu! aB!) mW!),sQ_,Cd cu! w_ iO!,sR_,Cd gi! w_ iO!,sS_,if g=f then some u else mA g,sT_,λb u q=>GQ _ q,sU_,Bm (Bh t.B5 "put_behind" 3 (Cr t) (w2 Co gi! I_) (Ac eL_ mZ!)),sV_,keywordEach [] X.env,sW_,backTo pos (starEach args X.env),sX_,gE b2f rfl T.Q6 rfl T.Q5 bP c0y E!,sY_,An 5 (wl (f2 Al (En v! Au c0_) (As gl_))),sZ_,aO (lI T) d_ rfl b7! at!,s0_,dA (h pos O s Z H _ I hq) λus s1 ⟨xs,H1,I1,r,z,q⟩=>⟨by rw[<-r.length];exact z,?_⟩,s1_,wl (f2 Ai a1_ r!),s2_,aO (iH T) d_ rfl iV! at!,s3_,fT (f1 Ax iV_),s4_,λb z=>absurd z c_,s5_,fJ a8s a9b E! cZ t_,s6_,Dh (fT (f2 Bb bu_ (fC eP_))),s7_,.Attribute o m aj,s8_,backTo pos s8!,s9_,Dh (fT (f2 Bb bu_ (fC m4_)))]
def z't:String:=z [ta!,⟨I2.kIn,?_⟩,tb!,starEach [] X.env,tc!,.cons rfl .nil,td!,I.hok.fresh (NY _),te!,Dh (fT (f2 Bb bu_ (fC iY_))),tf!,.Call (.Name x p) [] [] pos,tg!,Ac w_ (Ac aB! (Ac (wl m6!) Ag)),th!,Av tf_ (Bm (Ao 3 (Mt t) tg!)) By,ti!,Dz t.B3 "ours" j_ w_,tj!,(by simpa using J),tk!,aU (bN (aM aH aL E! (aW eW eX af! gn!) q_)),tl!,cellsFrom ae_ scope.names [],tm!,(show b∈yL_ from z),tn!,λ_ _ _ _ _=>a5z (fE (bI aJ! cB a1! af! t_)),to!,λ_ _ _ _ _=>gt_,tp!,aW aN bE af! aB,tq!,w2 (λ_=>Jj) (wl m9_) tp_,tr!,w2 iW! (wl m9_) (w2 Jt tp_ (wl r!)),ts!,W.fnOf name qual params body scope dV kV bo pm an af ct,tt!,wT (Ao 2 (Fp t) nb!),tu!,Ds (w2 Jt eS! w_),tv!,cK (aC a1! iV!),tw!,wT (w2 iW! tu_ (Aw t.B3 "ours" j_)),tx!,f2 Fb C! F_,ty!,Av tx_ Hs By,tz!,f2 Ai F_ D_,tA!,dA mq_ λus s1 ⟨vs,H1,I1,r1,q1⟩=>hc O s1 Z H1 vs us Q I1 r1 q1,tB!,wT (w2 (λ_=>Jj) aB! (Hg I_ gu_ (Ao 2 (Gy t) (Ac j_ (Ac gu_ Ag))))),tC!,Cd I_ gu_ aB!,tD!,f1 (Ca t) aZ_,tE!,Bm (Ao 2 (Gr t) (Ac j_ (Ac (Ao 2 (Dd t) b8_) Ag))),tF!,dC am_ c4! dU,tG!,aO gv_ d_ rfl (aC E! (aC tp! aK)) af_,tH!,if v<0 then max ng! 0 else min v (n:Int),tI!,((sIx n n hi:Nat):Int),tJ!,aW eW eX aR! aB,tK!,aC (aO dQ! d_ rfl (aC am_ gw!) af_) (aC dQ_ aK),tL!,Av tJ_ (Ah (Bm (Ao 2 (Lh t) b8_)) (Bn tK_)) By,tM!,Ao 2 (Jg t) nb!,tN!,aW mM mO aR! aB,tO!,((sIx items.size 0 lo:Nat):Int),tP!,An 2 (Kn 2 (Dr t) E b8_),tQ!,w2 (λ_=>Jf) (w1 Pb (Ac aB! Ag)) aP_,tR!,Rq (Ku 3 C!),tS!,Ui (Bh t.B4 "children_of" 2 (Dm t) I_ (Ac (wl (f2 Ai C! r!)) Ag)),tT!,Ab (f2 Al tS_ r!) iR_,tU!,Be (f2 Ai l_ (f2 Bz w! dG!)),tV!,λ_ _ _ _ _=>p!,tW!,IE (sS xs lo hi) hz,tX!,.tup [ja!,ja!],tY!,bI eT_ vG af! ai_ t_,tZ!,Ng (Fc (f1 Bk (Ab (f2 Ai a1_ ae!) Af))) P! (Ku 1 tY_),t0!,(by rw[hj];simpa using ew),t1!,⟨z,H,I,au,q⟩,t2!,slot_list_getitem.lookup,t3!,(by rw[GW]<;>omega),t4!,Bv 5 (f1 Ib c3!),t5!,Bv 6 (f1 Cw (Ab (f2 Al t4_ (En C! Au (At r!))) no_)),t6!,Bv 7 (f1 Cw (Ab (f2 Al C! (fC (.lst jd!))) (Ab (f1 Bt (Ab l_ (Ab (f2 Al w! W_) Af))) Af))),t7!,Bv 8 (fC (.lst [dL_,dL_,dL_,eP_,eP_,gq!,gq!,dJ!,iY_,b7_,m0!,m4_])),t8!,Bv 9 (f2 Ai bt! (f2 Bz G! t7_)),t9!,(by rw[hk];exact⟨_,I',q⟩)]
def z'tt:String:=z [ta_,Ac b8! (Ac iM_ (Ac b5_ Ag)),tb_,Dh (fT (f2 Bb bu_ (fC gq!))),tc_,Dh (fT (f2 Bb bu_ (fC dJ!))),td_,(Value.ref ae_::eO_),te_,An 1 (Hi t.B4 1 (Ho t) Ag),tf_,wT (w2 mE_ aB! I_),tg_,(∀v,(x,v)∉binds),th_,aG (fV T.U0 T.V9 p! cu_),ti_,(by simpa using B),tj_,Ah (Dz t.B3 "taken" j_ Fg) (Ah (Dz t.B3 "waiting" j_ (Ix Ag)) m6_),tk_,w1 Pb (Ac (Hg dO_ w_ gs!) Ag),tl_,Js CX P w K mg base N qual scope f cd A outer s H E,tm_,wT (w2 (λ_=>Bs) gt! b5_),tn_,λb z=>absurd z (tz b),to_,Av tm_ (Dz t.B3 "outline" j_ (Ao 1 (Hy t) m9!)) By,tp_,Bh t.B3 "have" 2 (Eh t) j_ (Ac (wl na!) Ag),tq_,x.above y c (KS h),tr_,Av (wT (w2 iW! (Bh t.B3 "have" 2 (Eh t) j_ c2!) aP_)) (Bn aP_) By,ts_,λ_ _ _ _ _=>tv!,tt_,∀vs H Q E,sp vs H Q E->bd!=T!,tu_,wl (f2 Ai G! D_),tv_,fI (n:=10) rfl,tw_,Av tt! (An 5 (w2 Co (w2 Co dO_ tu_) (wl (f2 Do (f2 Ai G! r!) r!)))) (Av tw! Hs (An 5 (Hm I_ aB! al_))),tx_,Dh (fT tx!),ty_,Ds (w1 Qa c2!),tz_,An 4 (w2 Co (w2 Co w_ al_) (wl W_)),tA_,kJ I hg hm hv ?_ hn av,tB_,Ee.cons (j:=2) Ee.nil,tC_,Av tB! Hs By,tD_,fT (f1 Ll (Ab ne_ Af)),tE_,Bm (Mx (Hm dO_ (wl na!) (Ix Ag)) w_),tF_,if v<0 then(ng!).toNat else min v.toNat n,tG_,An 2 (Dt 1 [0] (Ds eS!) N_ (wT (Ao 2 (Gn t) (Ac w_ bu!))) j_),tH_,Dh (fT (f2 Jf (f1 Bk c3!) D_)),tI_,s.heap.IsSliceOf sl vl vu .none,tJ_,wT (Ao 2 (Gn t) b8_),tK_,w2 Jt (wl r!) (Ao 1 (Ec t) bu!),tL_,Bm (Ao 2 (Fh t) b8_),tM_,sIx items.size items.size hi - sIx items.size 0 lo,tN_,Str.ofString "__getitem__",tO_,tO!==0&&(1:Int)==1&&tM_==c7!,tP_,aW eW eX tN! aB,tQ_,An 5 (Sm aB!),tR_,Option Int->Hp->Prop,tS_,f2 Ai C! D_,tT_,Mx aB! (wl (As tT!)),tU_,s3.heap.objs.size,tV_,f2 Al w! r!,tW_,(r.drop nk_).take nl!,tX_,fT (f2 Bb gn_ (fC gq!)),tY_,As (Ab bu_ (Ab eP! iV_)),tZ_,call eS_ (v::us),t0_,f2 Bz (f2 Cg w! (f2 Al r! (f2 Ef ae! l_))) (fC (.int 41)),t1_,f2 Ai v! t0_,t2_,λr s'=>r=w/\EP X O Z Q r s',t3_,Bv 4 (f1 Bt (Ab l_ b5!)),t4_,En C! (At r!) Au,t5_,(·.setIfInBounds j u),t6_,Fs (fT (Dj "str" bt_)) (Bv 7 bT!) Cn,t7_,fC (.int 12),t8_,upd H p (.lst (xs.set j v)),t9_,Fs (fT (f2 Bb bf_ (fC dL_))) (Be (As (Ab bf_ (Ab (f1 Cw (Ab C! no_)) (Ab bt_ Af))))) Cn]
def z'u:String:=z [ub!,aF bx! (aF bf! (aF cu_ aP)),uc!,cF ac! bL bv_ bx! q_,ud!,if b then 1 else 0,ue!,Bv 10 (f1 Cw (Ab (f1 Lj c3!) (Ab (f1 Bt (Ab l_ (Ab (f2 Al w! ge_) Af))) Af))),uf!,f2 Cg G! t7_,ug!,Fs (Cp (fT (f2 Bb bf_ (fC dJ!))) (fT (f2 Ap jf_ bT!))) (Be (As (Ab bf_ (Ab aI_ (Ab jf_ (Ab (f2 Al r! (f2 Bz uf! (f2 Do gb_ (f2 Ai jf_ W_)))) Af)))))) Cn,uh!,⟨o,e,ex.2.1⟩,ui!,typeOf eS_=pure (.type "method_descriptor"),uj!,Fs (fT (f2 (Qp false) bf_ (fC (.tup [dJ!,iY_])))) (Be (As (Ab (fC iY_) (Ab aI_ (Ab (f2 Bz uf! ge_) (Ab (f2 Do (f2 Bz (f2 Cg G! (fC (.int 48))) (fC (.int 2000))) (fC (.int 1000))) Af)))))) Cn,uk!,dA rK! λv s1 ⟨x,H1,I1,r1,ty,q1⟩=>?_,ul!,Be (As (Ab bf_ (Ab (f1 Cw (Ab (Aa 11) no_)) Af))),um!,List.replicate k xs,un!,f2 Al w! (f2 Ef (fC (.int 7)) aI_),uo!,Obj.mapSeq f,up!,Tw 4 bt! (f2 Al (Lk 4 bt!) r!),uq!,Tw 5 bt! (f2 Al (f2 Al (Lk 5 bt!) r!) (f2 Bz (f2 Cg bt_ ae!) ae!)),ur!,.cons ru .nil,us!,.lst (xs++zs),ut!,An 3 (wl (Nq dI!)),uu!,fT (f2 Zz (As (Ab (f2 Ai (Lk 1 jk_) W_) (Ab (f2 Ai (Lk 1 jk_) D_) Af))) (As (Ab dK_ (Ab bu_ Af)))),uv!,Rq (Vw 1 F_ v!),uw!,.tup [b7_,m0!],ux!,wT (w2 a0! (wl gn_) uw_),uy!,f2 Fb aP! w!,uz!,f2 Ai (f2 Ai G! C!) r!,uA!,An 5 (wl (f2 Al C! r!)),uB!,f2 Ai G! aI_,uC!,fT (f2 Bb uB! uB_),uD!,An 5 (wl (f2 Al aI_ r!)),uE!,fW (bD (sD T) d_ rfl db_),uF!,f2 Al (En G! Au eY!) (Di uE_),uG!,f2 Bb aP! w!,uH!,Av (Dh (Ct (λρ=>((F_) ρ).bind Vc))) jm_ By,uI!,starEach [e,f] X.env,uJ!,ns.map WData.int,uK!,Jl (wT (Ao 3 Lq (Ac j_ iR!))),uL!,Bm (Ao 4 Ga uK_),uM!,aW aN bE af! (aW qT qU aB bw!),uN!,rS (i:=4) d! bP_ q_,uO!,rS (i:=5) d! bP_ q_,uP!,Ac j_ (Ac al_ (Ac (wl (Lu (fT G!) eP! iG!)) (Ac go_ Ag))),uQ!,Cd uP_ go_ (wl a1_),uR!,f2 Ai (f2 Ai C! bt_) D_,uS!,Av (Dh (fT uR_)) (An 6 (wl (f2 Al bt_ r!))) By,uT!,f1 Bk (Ab a1_ Af),uU!,Ab (f2 Al v! (As aZ_)) (Ab (f2 Ai ny_ l_) (Ab (fC A!) Af)),uV!,f2 Al (En C! Au e0!) bt!,uW!,En C! e0! Au,uX!,En gD_ Au c0_,uY!,An 9 (Dt 1 [2] (Lw (Fc a1_)) N_ jr_ (wl (f2 Al uX! (As nK!)))),uZ!,(by rw[HG];exact hl),u0!,Ek jl! gs! (Ek nw_ Fg (Ek nA_ Fg Mw)),u1!,∀(w:World) (h:Heap),YP w h->(bQ!).In h,u2!,An 2 (Ao 1 Lp bu!),u3!,Ab tz! (Ab (f2 Ai F_ r!) Af),u4!,Bm (Ao 2 Uw mW!),u5!,Wr K x qual st f fd,u6!,f2 Bb b4! w!,u7!,An 3 (wl (Di (Ab (As (Ab v! b5!)) Af))),u8!,Ac j_ (Ac aB! (Ac (wl (f2 Al v! r!)) Ag)),u9!,.inl (.inr ⟨o,e _ _ h⟩)]
def z'uu:String:=z [ua_,Fs (fT (f2 Bb bf_ (fC eP_))) (Be (As (Ab bf_ (Ab aI_ (Ab (f1 Cw (Ab C! (Ab (f1 Bt (Ab l_ (Ab (f2 Al w! ae!) Af))) Af))) (Ab bt_ Af)))))) Cn,ub_,Fs (fT (f2 Bb bf_ (fC m4_))) (Be (As (Ab bf_ iR_))) Cn,uc_,if a then 1 else 0,ud_,aZ (i:=5) iC.nd rfl b! uc!,ue_,Fs (fT (f2 Bb bf_ (fC gq!))) (Be (As (Ab bf_ (Ab aI_ (Ab jf_ (Ab (f1 Nl (Ab (f1 Bt (Ab l_ (Ab (f2 Al w! nq!) Af))) iV_)) Af)))))) Cn,uf_,(λ_ e=>nomatch e),ug_,⟨⟨o,e,ex.1⟩,λa e2=>?_⟩,uh_,Slot T name id,ui_,attributeBase o name X.env cW!=eval o X.env,uj_,.Attribute o name aj,uk_,Bv 11 (f2 Al (Ep 1 [] (Eo v!) N_ ai! (As gx_)) (Di (Ab (As (Ab D_ (Ab (f2 Al r! (f2 Bz G! nq!)) Af))) Af))),ul_,backTo ag lX!,um_,List.replicate k its,un_,Bv 7 (f1 Bt (Ab l_ (Ab un! Af))),uo_,Bv 8 (f2 Bz bt_ ae!),up_,λ_ _ q=>GQ _ q,uq_,Bv 9 (Nq (f1 Jr (Ab l_ (Ab (f2 Al un! r!) (Ab F_ (Ab nq! Af)))))),ur_,Ku 3 (As (Ab (f2 Ai (fC (.lst [K!,(.int 5),(.int 15)])) bt!) (Ab (Lk 4 bt!) (Ab (Lk 5 bt!) (Ab bf_ Af))))),us_,gr.toArray.size,ut_,fT (f2 Jf F_ D_),uu_,aW qR rA aK! aB,uv_,aM aH aL (rS (i:=1) d! uu_ q_) aB q_,uw_,wl (fC uw!),ux_,Cd w_ s1_ (wl (f2 Bb gn_ iU!)),uy_,fT (f2 Je C! eX_),uz_,fT (f2 Fb uz! v!),uA_,fT (f2 Ap F_ bT!),uB_,As (Ab F_ c3!),uC_,Dh (Cp uA_ uC!),uD_,Heap.SameBut a s.heap h',uE_,Ab (As (Ab w! c3!)) Af,uF_,En G! eY! Au,uG_,An 3 (Dt 1 [1] nv_ N_ (Dh (fT uG!)) (wl b4!)),uH_,starEach [e] X.env,uI_,.str "texts",uJ_,pre_splitW wg,uK_,Ac j_ (Ac w_ (Ac I_ mV_)),uL_,aC aB (aC aB ny!),uM_,Ab na! (Ab m9_ Af),uN_,An 4 (Vb gB_ (wl (f2 Bb eP! gd!))),uO_,.str "numbers",uP_,w2 Co nB! b8!,uQ_,f1 Bk (Ab C! Af),uR_,f2 Bb uR! dK_,uS_,cF ac! bL nJ! y! q_,uT_,aD (fJ mL mR af! cZ t_),uU_,An 8 (Dt 1 [2,3] (Lw (Fc uT!)) N_ jr_ (wl (As uU!))),uV_,cE (iI T) d_ p! js!,uW_,(Cd by! b8! (wl (f2 Al uV! uW!))),uX_,f2 Ai gD_ W_,uY_,(Cd by! b8! (Dt 1 [9] (Lw (Eo C!)) N_ jr_ (Wz (Ac (wl aP!) (Ac (wl b4!) (Ac (Mc (wl gc!) (w2 mE_ (wl aP!) w_)) Ag)))))),uZ_,Params->W.Frag,u0_,(∀(s:Shared) (u:Value),BindsTo s fd jq_ [(x,u)]),u1_,An 1 (Ol u0!),u2_,wT (w2 mE_ (wl (f2 Ai m6! D_)) uw_),u3_,Jl (wT (Hg I_ (wl (As u3!)) jm!)),u4_,pE x! (gY cu_ cu_ vK),u5_,∀(kV bo pm:Value) (an:aJ_) (af ct:Value) (us:g_),as!=T!->bindArgs nL! c5!=pure c3_,u6_,K.lookup f=some ⟨oc,od,.func nL!,dr⟩,u7_,Ds (Ao 2 Il b8_),u8_,.inl (.inl (e _ _ h)),u9_,Bv 4 (f2 Ai w! F_)]
def z'v:String:=z [va!,f2 Jf (f2 Bz (f1 Bt (Ab l_ (Ab (f2 Al (fC (.int 30)) F_) Af))) ae!) D_,vb!,Cp (fT va!) (fT va_),vc!,Bv 6 (f1 Cw (Ab t4_ (Ab (f1 Bt (Ab l_ (Ab (f2 Al (fC (.int 40)) F_) Af))) Af))),vd!,ForInStep.yield ((name,a)::r),ve!,bG T.U1 T.V3 p!,vf!,(by simpa using hk),vg!,λp hp=>hn p jv!,vh!,An 1 (wl (f1 Nm (Ab l_ (Ab (f1 Li (Ab l_ (Ab D_ (Ab (f2 Bz (f1 Bt vg_) (fC (.int 13))) Af)))) Af)))),vi!,Ac (wl ae!) Ag,vj!,Bm (Ao 2 (Se t) iR!),vk!,Ds (w2 Jt (wl (fC (.lst [gc_,iF_]))) (w1 Qm (Ac jw! Ag))),vl!,cE (kD T) d_ p! (aF gA_ aP),vm!,X.N[j]?=some x,vn!,Av (Dh (Ct vm_)) jm_ By,vo!,Av vp! (An 4 (wl (f2 Al G! vn_))) By,vp!,wT (w2 a0! iS! nx_),vq!,Av (Wu (wT (w2 Yn (wl eX_) (w2 Jt (w1 Uu (Ac jw! Ag)) (wl W_)))) (Jl (wT (w1 (λ_=>Ll) (Ac (Dt 1 [4] (Oj jw!) N_ jr_ (w2 a0! j_ w_)) Ag))))) jm_ By,vr!,Xa 9 6 (BL jy_) λE=>Bm (Kn 2 (Lf t) E (Ac I_ (Ac (wl (fC tX!)) Ag))),vs!,(show(vr_:List Str).Nodup by decide+kernel),vt!,T.W3 _ rfl rfl rfl rfl,vu!,GV (f:=b_) z,vv!,⟨h.no,h.nd⟩,vw!,([]:List Value),vx!,(λv z=>by cases z),vy!,(by rw[P];simp[hm]),vz!,λz=>f7.2.2 _ z _ c_ rfl,vA!,I8.pin (b,o) sc_,vB!,Aq jE_ b0 a0,vC!,fJ aJ! cB na_ aT t_,vD!,X.env.kindOf y.1=some .cell\/X.env.kindOf y.1=some .free,vE!,∀cl C am bc fp,Pe ca_ de tt,vF!,Yf NL.length ix wi g tt te,vG!,⟨II (HP Y hC),II (HP Y hD)⟩,vH!,.inr (IE I2.sz hC),vI!,λx c h=>(vH_).1,vJ!,∀a vs,Ff K H a vs->Ff K H' a vs,vK!,Am.map ht hl hd xs vs r,vL!,λ_ _ q=>e.seq q,vM!,(∀b,b≠f->b≠p->M' b=M b),vN!,(by rw[ls];simp),vO!,⟨?_,⟨_,_,_,_,(mup_ne h.ne).trans mup_same,mup_same,K'⟩,h.ne⟩,vP!,(u++n::v++bR!),vQ!,aM aH aL am_ aB q_,vR!,[.int a,.int b],vS!,u'++[dh_]++v,vT!,(by rw[<-z];exact hq),vU!,⟨λO s Z H Q I ⟨G,ρ,d,er,e,k⟩=>h O s Z H Q I nZ!⟩,vV!,⟨_,h.mem.mpr aF_,rfl⟩,vW!,b1m ho ha.ok Y.ok hm,vX!,b7h ho ha.ok Y.ok,vY!,λx H'=>∃k,x=.bl k/\Q k H',vZ!,⟨b1a h.ok⟩,v0!,b6j ha.ok Y.ok,v1!,c5e ha.ok Y.ok,v2!,⟨b7i h.ok⟩,v3!,λv G1 H1 s1 r1=>?_,v4!,k _ G1 H1 s1 Ar.bl,v5!,k _ G1 H1 s1 Ar.bl,v6!,a5j hc.ok ha.ok Y.ok,v7!,(by rw[<-aJ r1];exact gN hl),v9!,oQ hc hg hm hv ha.ok hn av he ax]
def z'vv:String:=z [va_,f2 (Qp true) (f2 Ai (f2 Ai G! ae!) D_) (fC (.tup [dL_,eP_])),vb_,Bv 5 (f1 Ib b5!),vc_,Str×NameKind,vd_,ForInStep (List e1!),ve_,Bv 4 (f2 Al (En G! Au (At ae!)) (As (Ab (As (Ab (fC eP_) (Ab aI_ (Ab (f1 Cw (Ab C! (Ab (f1 Bt (Ab l_ (Ab (f2 Al (fC (.int 50)) F_) Af))) Af))) (Ab bT! Af))))) Af))),vf_,(if(k==gE_)=true then _ else _)=_,vg_,Ab l_ (Ab sp_ Af),vh_,oC cells r _ x h,vi_,An 2 (Hi t.B3 2 (Lr t) vi!),vj_,An 3 (Ao 1 Pi c2!),vk_,An 8 (Ao 2 (Ph t) (Ac I_ mZ!)),vl_,Av (Wu (Dh (Ct (fT (Dj "list" bt!)))) (wT (w2 Yn eL_ (Ao 3 (Hc 20) (Ac al_ (Ac iS! mW_)))))) jm_ By,vm_,fT (f1 Ll (Ab (Ep 1 [] jx_ N_ ai! (Cc iC_ nP_)) Af)),vn_,Ep 1 [] jx_ N_ ai! b4!,vo_,oX (i:=2) (NL:=bM!) (NF:=br!) (ix:=[0]) dP.nd rfl b! rfl d! v_ (cI (sc:=Ae Et) rfl v_) (Ee.cons (j:=0) Ee.nil) d! rfl (fW gG!) (λ_ _ _ _ _=>bF (i:=0) (show([cs!,aH!]:List Str).Nodup by decide+kernel) rfl b!) aQ_ (λ_ _ _ _ _=>a5z (fD (bD (nR T) d_ rfl (aF y! db_)))) tV!,vp_,∀b∈fp,b<O!,vq_,eval b X.env,vr_,["check","part"],vs_,ForInStep.yield ok,vt_,GV (f:=b_) w,vu_,[⟨tg,iter,de,0⟩],vv_,⟨h.nd,F!,λa ha b Y=>by simp at Y;subst Y;exact λz=>h.no jB_⟩,vw_,([]:List (Str×Value)),vx_,λa ha b Y=>?_,vy_,bf.2.2 a ha b Y,vz_,λ_ _=>False,vA_,Aq jE! a0 b0,vB_,gj.2.2 _ this _ c_,vC_,bf.2.2 _ this _ c_,vD_,tH (fB (aO (lK T) d_ rfl b7! at!)),vE_,∀cl C am bc fp,PE ca_ du te,vF_,dA (a9 O s Z H _ I h) λv s1 B=>dA B λv9 s2 J=>?_,vG_,λb o Y e=>(cn.2 b Y).trans e,vH_,fh c (qq x c h),vI_,λx c h=>(vH_).2,vJ_,∀a kvs,Rd H a dH!->Rd H' a dH!,vK_,λ_ _ q=>bS e q,vL_,λ_ _ q=>b0v e q,vM_,⟨a,vs,rfl,h,r⟩,vN_,bG T.U0 T.V9 p!,vO_,r.mono (iD h),vP_,⟨v,B,J.mono x.g⟩,vQ_,Z[i]?=some cb_,vR_,[.int a,.int b,.int c],vS_,GV (f:=b_) this,vT_,Yw X.K own f,vU_,∀Z G H Q ρ d,OR X.K own G H Z ρ->ft ρ=some d->(∀G' H',Cm G H G' H'->Q d H')->t Z H Q,vV_,λx hx=>hk x cF_,vW_,b7m hr ha.ok Y.ok hs,vX_,b1b ho ha.ok Y.ok hm,vY_,⟨d,rfl,n3!⟩,vZ_,⟨b6i h.ok⟩,v0_,⟨G1,ρ,d,di_,e,λG2 H2 s2=>k G2 H2 dj_⟩,v1_,Str.ofString "hidden",v2_,b7o ha.ok Y.ok,v3_,λv G2 H2 s2 r2=>k v G2 H2 dj_ r2,v4_,c5g ha.ok Y.ok,v5_,.obj t.B4 ao_,v6_,dD h.ok hs.ok hst,v7_,s1.trans (Cm.laid s1.sub hp),v8_,s1.sub.free hp,v9_,Xe X.K ps.length g]
def z'w:String:=z [wa!,(aG_).length=T!,wb!,R (.lst bB_) M,wc!,.inr (.inr ⟨es!,rfl⟩),wd!,k _ G H aC_ Ar.str,we!,∀i j H,Ar K H br_ (gv i j),wf!,k _ G H aC_ (hg _ _ G),wg!,λ_ j=>decide (0<j),wh!,λ_ j=>decide (0<j)&&decide (j<1073741824),wi!,.bl (Ra i j),wj!,⟨az b d0_,hr⟩,wk!,setT W i (Gb [s] a5_),wl!,X.mg "isinstance"=none,wm!,Gl X "isinstance",wn!,(by rw[show hb+(js.length+1)=hb+1+js.length by omega];simpa using h'),wo!,(λxs H Q=>∃x n,xs=[x]/\Zr K x H n/\Q gf! H),wp!,(d3_).map λk=>z+a9!,wq!,(U++(s,c,true)::v),wr!,(by rw[z];exact hA.r5),ws!,i=f_->ac.stop i H',wt!,⟨r,f,p,g1,?_,g3,g4,g5⟩,wu!,(by rw[hl];exact HQ _ q0),wv!,[aU_,aM!,.int (k':Nat)],ww!,Zl K 2 (Tl eD! (Tl (Np j) Zm)),wx!,.int (k0:Nat),wy!,(D.tup j3_,D.str aC!,true),wz!,((op!).mono x3.g).mono x4.g,wA!,Yw X.K [] ft,wB!,b1l cj ce kj il cap calm a9.ok hg hi wA_ hs,wC!,if i∈W.its then setT W i (wrT b d6! a5_)else W,wD!,DS X own a8 st q1,wE!,.Assign [cC!] e pos,wF!,MR P w K M' G' H',wG!,⟨G',ρ,r,er.grow x',e2,k⟩,wH!,λj d q n=>?_,wI!,mup_ne (nq c (f9 c j6!)),wJ!,mup_ne (nq c hc),wK!,λz=>absurd z.symm cv,wL!,.nx (ρ.set i (some (.lst (ds++[d])))),wM!,.Call (.Attribute bk_ "append" aj) [e] [] ag,wN!,c≠r1/\c≠f1/\c≠p1,wO!,DE X own ix fx,wP!,kB hN zi hd bv,wQ!,(x.trans x2).h _ _ h3,wR!,Cm G0 F0 G1 H1,wS!,hg.chl_same w.rnd,wT!,λvs H Q E h=>h.1,wU!,Y af A outer s H E hr,wV!,uU I xs ys vs n n' rr b7,wW!,(by unfold Bd at h;exact h),wX!,(by rw[GW,GW,<-h3,<-h4,<-B,<-J];simpa using hl),wY!,a4v I _ _ _ n n' r r',wZ!,⟨.bl _,H,I,rfl,q⟩,w0!,Cb g g' fa fb fc,w1!,⟨bb,rfl,?_⟩,w2!,om.trans (s4.trans s5),w3!,.bl (if neg then !(ds.any λd=>Dy d x)else ds.any λd=>Dy d x),w4!,λO s Z H Q I h=>?_,w5!,mixKind X.prog X.w,w6!,Az M5 a3 (.dct ot! (Fx k3 n e3)),w7!,List D->Option D,w8!,λi _=>i<fh!,w9!,λi _=>fh!<=i]
def z'ww:String:=z [wa_,∀ρ ds,fs ρ=some ds->f_=T!,wb_,∀ρ ds,fs ρ=some ds->f_=n,wc_,(by rw[JC];decide),wd_,mup_ne (GT p2),we_,∀a p,(a,p)∈W.rows->rk p<rk a,wf_,(∀p,a3_∉W.rows),wg_,λz=>r1 (q.mpr z),wh_,λi j=>decide (0<=j)&&decide (j<=1000000)&&decide (ga!<2 ^ 64),wi_,(by rw[z];exact j0),wj_,s4.trans jW_,wk_,if x=i then Gb [s] a5_ else W.txt x,wl_,bootBuiltins "isinstance"=some jY_,wm_,⟨_,_,_,_,_,_,_,_,_,_,_,_,q1⟩,wn_,λa z=>(by subst z;cases e2),wo_,(d3_).map λk=>.tup gV_,wp_,.builtin "all",wq_,Az M1 a5 ok!,wr_,(∀d,ds[i]?=some d->ac.go i H'/\∀x gg,ac.yld i H' x gg->∃uc,Cm G' H' uc gg/\Ar K uc d x),ws_,az _ fc_ fc_ fc_,wt_,⟨dm!,λhi=>by rw[HG,KQ]at hi;exact NC hi.symm⟩,wu_,(by rw[hl];exact HD _ q0),wv_,setT W i (U++(om_).map d5!++v),ww_,⟨_,_,_,rfl⟩,wx_,⟨cP (by rw[<-aJ au];omega),?_⟩,wy_,setT W i (U++oo_::v),wz_,(by rw[hl,HU];exact HQ _ z),wA_,λx0 x1 x2 x3 x4=>(he x0 x1 x2 x3 x4).ok,wB_,λac G1 H1 x1 fm=>?_,wC_,CC X.K G0 F0 own σ f,wD_,uY hN hi hx h.ok hs hf,wE_,[bU!,bU!,bU!,bU!],wF_,Az d7_ a4 d8!,wG_,s.or.sub.trans zh,wH_,K5 c (ox_).1 (ox_).2.1 (ox_).2.2,wI_,K5 c (oy!).1 (oy!).2.1 (oy!).2.2,wJ_,if c=r1 then _ else _,wK_,(λb u e=>by rw[aY (hG e)];exact s.or.sub b u e),wL_,[e].length+(dS!).length+eV_<30,wM_,dD h.ok fR hst,wN_,ρ.set i (some (.lst (ds.set k d))),wO_,.Subscript bk_ ix p2,wP_,λiv G2 H2 x2 r2=>?_,wQ_,λi hi p e=>?_,wR_,(by rw[y];exact z),wS_,Wr K x qual st ae fd,wT_,F.ok S wT! (λaf A outer s H vs Q E hr h=>?_),wU_,⟨er,Cm.refl sub,an_⟩,wV_,c1 r' ak_ ak_ ak_ ak_ ak_ ak_ ak_,wW_,(List.range (min us.toArray.size oH_)).all (λj=>Dy oG_ oH!)&&kc_==oH_,wX_,mup_ne (GT (nq a4 (f9 a4 (s3 a4 A4)))),wY_,A.units+Gs d<cLine,wZ_,⟨dx,dy,rx.mono sub,ry.mono sub,h.1.1,h.1.2,h.2,d4_⟩,w0_,⟨G,ρ,x,er,e1,λv G1 H1 s1 r1=>⟨G1,ρ,y,di_,e2,λw G2 H2 s2 r2=>hg s2.sub gP! r2 e3 λt G3 H3 s3 r3=>?_⟩⟩,w1_,(r2.mono s3.g).mono s4.g,w2_,(λ(r:Fl) (M':Mh)=>match r with|.rt d=>R d M'|.nx _=>R .non M'),w3_,L2.Key×Value,w4_,ha.ok O s Z H _ I h,w5_,b9e (k:=oO_) r1,w6_,Ok X.prog X.w X.K X.mg X.base k x ps g,w7_,[G_,d9!,some a,d5_,none],w8_,x.cps.toList.map λc=>.str aC!,w9_,⟨(JL.mp hc).1,λv gg hy=>?_⟩]
def z'x:String:=z [xK!,Addr,xX!,Around,xa!,∀i h,St' i h->∃o,h.get? it=some o/\∀v,o.data≠.cell v,xb!,iL w.rnd dw z,xc!,λi h st=>UN _ i h st,xd!,ys.map (·.length),xe!,backTo ag (starEach [a] X.env),xf!,λw G2 H2 s2 r2=>?_,xg!,s.heap.IsTupleIter jt tt n,xh!,Builtin.SmallTypes.nextOf (.ref jt),xl!,firstArgMember _ _,xm!,wpAny_handled ?_,xn!,GO (wpAny_throw ?_),xo!,cs.map λ_=>D.bl true,xp!,(kk_).any λd=>Dy d aV!,xq!,ys[k2]?=some y,xu!,MO gz c_ λB mz b9=>?_,xv!,iq.extBut b9.extBut D.l1z,xw!,b9.extBut _ _ D.TOz gO,xx!,QJ ui λh3 wu dh=>?_,xy!,((ja.extBut b9.extBut D.l2z).extBut bu.extBut D.l2i1).extBut dh.extBut D.l2TO,xz!,(n::r).map D.int,xA!,b9.extBut _ _ c1 x,xB!,F.entry_zip_next,xC!,"StopIteration",xD!,CA s.heap l1,xE!,BY s.heap l1 l2,xF!,⟨_,_,rfl,b1,b2,b3,b4⟩,xG!,.lst (.str "root"::ys),xH!,⟨fO.2.2.2.1,fO.2.1,fO.2.2.2.2.1,fO.2.2.2.2.2⟩,xI!,some (.tup [.int h',aM!,.int tm,.tup xC_]),xJ!,[ax!,oY!,xI!,y],xL!,λc o _ _ _ e _=>nM!,xM!,λc o _ e=>nM_,xN!,(λc o u e=>by rw[o1!];exact e),xO!,I1.hok c o e,xP!,[none,some gf!,some o3_],xQ!,X.mg "zip"=none,xR!,starEach al! X.env=dF_::starEach [b] X.env,xS!,.Call (.Name "zip" p) al! [] pos,xT!,sSeq Xr (sSeq dq14 dq15),xU!,⟨G,ρ,_,er,e1,λv G1 H1 s1 r1=>⟨G1,ρ,_,di_,e2,xf!⟩⟩,xV!,(λx y H Q=>Ru (λi j=>.bl mJ!) x y H Q\/∃i j,x=.str i/\y=.str j/\Q wi! H),xW!,Db its cf_ none++Db its none cf_,xY!,Nat.ble ds.length 1000=true,xZ!,W.nsIn K mainGlobals x=some eK!,x0!,HB (Nat.le_of_ble_eq_true hl),x1!,W.codeIn K af x=true,x2!,[cF!,.int base,.lst ops,.int most],x3!,(Sum.inr r.1:L2.Key)=Sum.inr y,x4!,(λz=>by simp at z),x5!,Sum.inr.inj z,x6!,⟨rfl,rfl,rfl⟩,x7!,fs.map V.ref,x8!,(show v=.none from hx),x9!,Lz ks k=some j]
def z'xx:String:=z [xa_,λi h=>i<=fh!/\St' i h,xb_,jU (rows:=W.rows) (i:=i),xc_,ys.map V.str,xd_,.str (Txt.join z ys),xe_,[a].length+(dS!).length+eV_<30,xf_,Ny .str os A,xg_,s.heap.IsTuple tt xs,xh_,aw r' bF_ bF_ bF_ bF_ bF_,xk_,Obj.cls_mapFields ..,xl_,(by first|rfl|(simp only[firstArgMember];rfl)),xm_,show A.in1.handled=none from hh,xn_,((ea!).extBut.push _).push _,xo_,cs.map λ_=>true,xp_,xs[k1]?=some x,xq_,Builtin.«zip.__next__» ⟨[.ref z],[]⟩,xu_,bW g1 b9.extBut D.i1z,xv_,a1m xu_ xv! gx λJ UO bu=>GO ?_,xw_,MD ui rfl ?_,xx_,bW (bW (bW g2 b9.extBut D.i2z) bu.extBut D.i12.symm) dh.extBut D.TOi2.symm,xy_,dh.extBut _ _ D.TOz.symm (bu.extBut _ _ D.i1z.symm mz),xz_,xs[k1]?=none\/ys[k2]?=none,xA_,⟨_,gz,rfl⟩,xB_,F.args_zip_next_1 _,xC_,[kp!,a,b,d6_],xD_,BZ s.heap l1 l2,xE_,λy=>NameG y,xF_,(if kq_<=big then Option.map D.lst (Ei _ _ _ bG! ops)else none)=_,xG_,⟨fz.2.2.2.1,fz.2.1,fz.2.2.2.2.1,fz.2.2.2.2.2⟩,xH_,⟨f1.2.2.2.1,f1.2.1,f1.2.2.2.2.1,f1.2.2.2.2.2⟩,xI_,⟨f2.2.2.2.1,f2.2.1,f2.2.2.2.2.1,f2.2.2.2.2.2⟩,xK_,λc o _ _ _ e _=>e,xL_,λc o hc e n=>?_,xM_,(λc xs e=>by rw[o1!];exact e),xN_,λc ps e=>⟨#[],by rw[o1!,e];simp⟩,xO_,(λd q=>by rw[o2_];exact q),xP_,letters.cps.toList.length,xQ_,bootBuiltins "zip"=some oV!,xR_,(backTo pos (starEach [b] X.env)).any b_=false,xS_,[some gf!,bl!,some o3_],xT_,sSeq BN (sSeq Zn xT!),xU_,[H!,aq_,ax!,bl!,none,none,none,none,none,none,none,none],xV_,⟨_,_,rfl,rfl,d4_⟩,xW_,Db its none cf_,xY_,if f_<=1000 then _ else _,xZ_,W.fnOf x x jt! bz! bg! .none kV bo pm an af ct,x0_,K.lookup f=some ⟨oc,od,.func xZ_,dr⟩,x1_,∀(kV bo pm:Value) (an:aJ_) (af ct:Value) (us:g_),as!=T!->bindArgs xZ_ c5!=pure c3_,x2_,rows.map (Zc w),x3_,("cut"==k||"set"==k),x4_,.tup [kp_,item,.int (m0 / 12%4),.int (m0 / 48%2000 - 1000)],x5_,dN (g:=Qp false) (x:=.str k) rfl rfl (in2 k "cut" "set"),x6_,a5v rfl rfl e1,x7_,fs.map Value.ref,x8_,OI hT MQ.lookup ?_,x9_,(by unfold Cp;rw[pT rfl (KJ _)];rfl)]
def z'y:String:=z [ys!,Value,yt!,World,ya!,Option Nat->Shared->Prop,yb!,s.heap.get? d=some o,yc!,o.data=.dict es ep,yd!,(by simpa using hne),ye!,.Call r0! [a] [] pos,yf!,a9=none/\rest.find? dq_=Lz ks k,yg!,a∈W.its/\Ez W b/\¬Wn W.rows a b,yh!,wrT b hi_ ar!,yi!,(om_).map d5!,yj!,pre++[.tup cI!],yk!,Hn W pd_ rows',yl!,setT W a yh!,ym!,(List.range m'.toNat).map λk=>.tup gV_,yn!,tZ ho hc hd (by simp[Xn]),yo!,ft ρ=some false,yp!,[G_,d9!,some d],yq!,Builtin.Dict.takeOut a u,yr!,Ac kg! (Ac (wl f2) (Ac (wl f3) (Ac (wl f4) Ag))),yu!,"operation_name",yv!,(by rw[cx,i1];rfl),yw!,λx hx=>h x cF_,yx!,Gq P w K G H a c,yy!,MR P w K M1 G1 H1,yz!,.tup [kH_,hk_],yA!,∀a,k' (f a)=k a,yB!,(a.map Op.key).Nodup,yC!,init.map pgD,yD!,∀Z G H Q ρ M R,Sh X.prog X.w X.K own G H Z ρ M->ft ρ M R->(∀d M' G' H',R d M'->XM M G H M' G' H'->MR X.prog X.w X.K M' G' H'->Q d H')->t Z H Q,yE!,λx=>Bb x aV!,yF!,(show pm!=true by decide+kernel),yG!,Ny pq! os hb,yH!,⟨_,rfl,k _ M' G' H' r' x' m'⟩,yI!,.nx [R_,S!,y'],yJ!,⟨G1,ρ,M1,R,kK!,r1,λd M2 G2 H2 r2 x2 m2=>k d M2 G2 H2 r2 cJ_ m2⟩,yK!,k _ M1 G1 H1 r1 x1 m1,yL!,(by unfold Ny;rw[hu];exact B),yM!,k _ M1 _ G1 H1 r1 x1 m1 Ar.bl,yN!,Cm.laid x1.sub hp,yO!,(by rw[b6.length_eq];simp;omega),yP!,(∀b,b≠q->M' b=M b),yQ!,(λx=>by simp),yR!,λB J z q=>?_,yS!,.dct pk! (Fx kvs d ep),yT!,∀a7 s',Inv X O Z kM! s'->Gq X.prog X.w X.K G kM! a yS!->Q () s',yU!,kget kvs d=some x,yV!,λi p h=>yU_,yW!,.builtin "dict.get",yX!,.obj t.B4 [],yY!,⟨by rw[HI];exact b0z,F!⟩,yZ!,Builtin.Dict.keyAndDefault,y0!,mup_ne (GT j4),y1!,(by rw[RO,sf];simp),y2!,.dct kR_ (pz!).length,y3!,.obj t.B4 hs_,y4!,Bo e9! (.fn a4) pA!,y5!,sR (A:=X.A) a! I m sub e ⟨_,r,rx⟩ hk λs' I'=>GO ⟨.bl _,H,I',rfl,q⟩,y6!,[cY_,iz!,mw_],y7!,x1.trans kU_ m1,y8!,Addr×List ax_×Nat,y9!,if root=root then _ else _]
def z'yy:String:=z [ya_,Nv P w s.heap es ks,yb_,fJ aJ! cB E! aT t_,yc_,dictWalkPlain d u dr! es kA_,yd_,λe=>hh (by rw[q3,e];simp),ye_,ks[i]?=some k',yf_,(by rw[<-e];exact q1),yg_,a∈W.its/\Ez W Bi/\¬Wn W.rows a Bi,yh_,[aU_,aM!,g8_],yi_,D.tup cI!∉pre,yj_,λx hx q hq=>?_,yk_,hg.winv w.inv hc.1 hc.2.1 hc.2.2,yl_,pS (s:=ed!) hu x hk ho hd ?_,ym_,dictSet a u v,yn_,ft ρ=some true,yo_,KG (s:=ed!) ho hd ?_,yp_,es.eraseIdx j,yq_,(by simpa using ao),yu_,k="undo"\/k="redo",yv_,λa ha b Y e=>?_,yw_,.ins C dx vs,yx_,k="undo"\/k="redo",yy_,(by rw[hM];simp),yz_,⟨?_,J.mono x.g ?_⟩,yA_,List D->Mh->Prop,yB_,Xz X.prog X.w X.K own f,yC_,⟨λO s Z H Q I ⟨G,ρ,M,R,st,e,k⟩=>h O s Z H Q I po!⟩,yD_,⟨_,by assumption,h⟩,yE_,(show pl_=true by decide+kernel),yF_,Sh X.prog X.w X.K own G H Z ρ M,yG_,Ny .str os acc,yH_,⟨trivial,hR M ep y hp λb _=>rfl⟩,yI_,Value->Sem Value,yJ_,((Ai o.v aA_).bind λx=>Ai x aI!)=_,yK_,Az M p (.dct (Aq acc a V!) (Fx acc a ep)),yL_,([]:List Addr),yM_,λM' be y' B J=>hR M' be y' yL! J,yN_,λo ho=>hd o (b6.mem_iff.mp ho),yO_,λM' ep y B J=>hR p M' ep hp B λb Y=>(J b Y).trans fr_,yP_,⟨B,J.mono (Bf.refl G) (aY Y)⟩,yQ_,[R_,S!,aW!,Z!,z],yR_,(pv!).getD .non,yS_,(∀b,M b≠none->M' b=M b),yT_,[eg!,none,none,none,none],yU_,(by simp[W0]at h),yV_,⟨_,rfl,IS h⟩,yW_,⟨o,rfl,h ho⟩,yX_,Az M o yX!,yY_,Az yX_ a1 E_,yZ_,.dct kQ_ (px!).length,y0_,a3t I B D' cn h4 ?_,y1_,JH fin (λold s' ⟨e1,o,q1,q2,q3⟩=>?_) λ_ _ z=>z,y2_,PR (GO ⟨_,rfl,q3⟩),y3_,[bc!,bc_,cY_],y4_,Ff K H p ys\/Gd K H p ys,y5_,[bN_,b3_,cs_,bc_],y6_,Qv X.prog X.w X.K r g,y7_,⟨ys,z,rfl⟩,y8_,Az M2 q.1 (.lst (q.2++[v])),y9_,(if root=Bi then _ else(if Bi=Bi then _ else _))=_]
def z'z:String:=z [z3!,Program,z2!,Shared,z1!,W.Frag,za!,.Attribute o "get" aj,zb!,⟨yv,q2,ry⟩,zc!,Y.run I2 zb_ r2 λz M3 zv G3 H3 jv s3 r3 x3 m3 q3 I3 rz=>NA ?_,zd!,⟨yv,q2.mono x3.g,ry⟩,ze!,.Attribute o "pop" aj,zf!,(∃SO,Vh W' SO),zg!,⟨_,dE!,x6!,rfl⟩,zh!,[R_,G_,aW!,some x.v,z],zi!,⟨[],bR,.nil,MX⟩,zj!,(show hb+20*(os.length+1)=hb+20+20*os.length by omega),zk!,MP X own pos keys jr fp,zl!,(by rw[show Op.nm x=Op.nm y from z.symm];exact GV hy),zm!,PUnit->Shared->Prop,zn!,⟨r',f',p',v1,v2.keep (k _ bF_) (k _ cD_) (k _ cE!),v3,v4,v5⟩,zo!,(ops.map Op.nm).Nodup,zp!,[eg!,G_,aW!,none,none],zq!,(λx _=>by simp),zr!,(by rw[e3,e1];exact Y),zs!,some (.lst (l.map Op.v)),zt!,((j+1:Nat):Int),zu!,λj hj p e=>?_,zv!,λb o e Y=>?_,zw!,GS (λhr=>by rw[(s.root hr).2]at e;cases e),zx!,J.ok M0 G0 F0,zy!,[eg!,none,none,none],zz!,λd M' v G' H' r x m q=>k1 _ M' G' _ H' r ((pN_).set bq q),zA!,BEq.comm (a:=Str.ofString "undo"),zB!,λd M' v G' H' r x m q=>k1 ρ M' G' Z H' r pN_,zC!,Aq acc u.2 fq_,zD!,sr.grow x1 m1,zE!,if _ then _ else bY!,zF!,.Subscript o i p2,zG!,λd M' v G' H' r x m q=>?_,zH!,⟨ej_,rfl,λK hK=>?_,k4_⟩,zI!,λz=>Bb z x,zJ!,(match rs[k]? with|some q=>!decide (q.2=p)|none=>false),zK!,.bl (!decide ((fy!).2=p)),zL!,[M!,K_,cB!,cD!,hA!,hB!,y],zM!,⟨nz,cg.mr,an_⟩,zN!,(by rw[cond,HF z]),zO!,Uh M w rl W wt wn qa,zP!,⟨aw b d0_,hr⟩,zQ!,∀cl C am bc fp,Pe ca_ de zO_,zR!,(by rw[hA.rn];simp),zS!,λb _ hr=>zP!,zT!,λds M1 vs G1 H1 r1 x1 m1 q1=>?_,zU!,!decide (q.1=i),zV!,λd M1 v G1 H1 r1 x1 m1 q1=>?_,zW!,[B!,K_,cB!,cD!,hA!,on!,none],zX!,(rs.take a++bA_::rs.drop a),zY!,.lst ((ek!).take a++[Bj bA_]),zZ!,⟨wt,wn,qa,g1⟩,z0!,⟨G,_,M,_,⟨⟨er,m,an_⟩,.refl sub,an_⟩,e.2,λρ' M' G' h2 H' r sr=>kk _ M' _ G' H' r sr.x sr.st.mr Ar.non,λd M' v G' H' r x m q=>kk d M' v G' H' r x m q⟩,z4!,(show¬((i:Int)<0)from by omega),z5!,rawInt ((i:Int)+1),z6!,Dh (knd "put"),z7!,Dh (knd "drop"),z8!,Av (Gj (Dh (knd "write")) Tk) Sf (Av (Gj (Dh (knd "cut")) Tk) Wp By),z9!,s0.heap.objs.size]
def z'zz:String:=z [za_,LU (KP (ha.run I1 fw! r1 λy M2 yv G2 H2 iv s2 r2 x2 m2 q2 I2 ry=>NA ?_)),zb_,(fw!).grow x2 m2,zc_,(ci!).mono x3.g,zd_,⟨zv,q3,rz⟩,ze_,(∀x∈os,x.nm∉pre),zf_,s.heap.push {cls:=.type "dict",data:=.dict #[]},zg_,dE s.heap.objs.size [] 0,zh_,I.laid (t':=s.toks) up_ x_ ⟨⟨D0,KR.mpr (GT (II I.big)),JA _⟩,let⟨o,h,_⟩:=D0;pu_,yR!⟩,zi_,h5 q (by rw[pv];simp) j0,zj_,List ax_->Mh->Prop,zk_,λy hy z=>?_,zl_,∀c,rl c≠.oth->M' c=M c,zm_,Az M c (.dct (acc++kvs) (n+az!)),zn_,ForInStep PUnit,zo_,(∃pre,Vh W' pre),zp_,hp.mem_iff.mp hx,zq_,(kY_).nodup_iff.mpr nn,zr_,compareOp .Gt,zs_,Az M s.heap.objs.size E_,zt_,Zx X.prog X.w X.K M0 G0 F0 own σ f,zu_,Cm G k0_ G' H',zv_,acc.map Op.v,zw_,.int (ck_:Nat),zx_,⟨G,ρ,M,_,sr,e,λρ' M' G' h2 H' r dm=>⟨G',ρ',M',R,dm,r,k1,k2⟩,λd M' v G' H' r x m q=>k2 d M' v G' H' r x m q⟩,zy_,[eg!,ei_,none,none],zz_,⟨G,ρ,M,_,sr.st,e,λb M' G' H' r x m=>?_⟩,zA_,BEq.comm (a:=Str.ofString "redo"),zB_,⟨λM0 G0 F0 O s Z H E I ⟨G,ρ,M,R,sr,e,k1,k2⟩=>e.elim⟩,zC_,Fx acc u.2 ep,zD_,(zD!).grow x2 m2,zE_,.up hp .here,zF_,.write m3 x3.sub hM,zG_,Tp X own own body q1,zH_,decide (q.2=x),zI_,∀q∈rs,Sd q.1/\Sd q.2,zJ_,Bk [.lst ek!]=_,zK_,(f1 Bk gl_ bZ!).bind (λz=>Je hv_ z)=_,zL_,((List.range' k m)).map λj=>D.int hw!,zM_,ifT (by rw[cond,HY z]) ?_,zN_,.inr ⟨j,u!,J,h3⟩,zO_,Xz X.prog X.w X.K [] ft,zP_,∀cl C am bc fp,ME ca_ [] du fe,zQ_,⟨kh.or.cap NL.length ix hix,m1,an_⟩,zR_,Dt NL.length ix fi bnd ft fe,zS_,[B!,K_,cB!,cD!,none,none,none],zT_,(by rw[<-aJ q1];exact r1.1),zU_,Es X.prog X.w X.K X.mg X.base k C m ps g,zV_,⟨G,ρ,M,_,st,e',zV!⟩,zW_,.inl ⟨rfl,λj hj=>by omega⟩,zX_,.lst ((ek!).drop a),zY_,Vk X.prog X.w X.K X.mg X.base k x C ps g,zZ_,λq=>decide fz!,z0_,s.heap.IsKeyIter it d i es.length ep,z3_,GO (GM (LC uo uq ?_)),z4_,GO (GM (QE hT ?_)),z5_,Obj.mapFields (·.setIfInBounds 1 z5!),z6_,Dh (knd "move"),z7_,Gj (Dh (knd "set")) Tk,z8_,Aa 2 ρ=some pg_,z9_,Gj (Dh ft) fu]
end
open Lean in
local macro_rules|`($s:ident)=>match s.getId with|.str .anonymous t=>let c:=t.back;if c=='!'||c=='_' then match (let b:=c=='!';if t.length<3 then if b then z'0 else z'00 else match t.front with|'a'=>if b then z'a else z'aa|'b'=>if b then z'b else z'bb|'c'=>if b then z'c else z'cc|'d'=>if b then z'd else z'dd|'e'=>if b then z'e else z'ee|'f'=>if b then z'f else z'ff|'g'=>if b then z'g else z'gg|'h'=>if b then z'h else z'hh|'i'=>if b then z'i else z'ii|'j'=>if b then z'j else z'jj|'k'=>if b then z'k else z'kk|'l'=>if b then z'l else z'll|'m'=>if b then z'm else z'mm|'n'=>if b then z'n else z'nn|'o'=>if b then z'o else z'oo|'p'=>if b then z'p else z'pp|'q'=>if b then z'q else z'qq|'r'=>if b then z'r else z'rr|'s'=>if b then z's else z'ss|'t'=>if b then z't else z'tt|'u'=>if b then z'u else z'uu|'v'=>if b then z'v else z'vv|'w'=>if b then z'w else z'ww|'x'=>if b then z'x else z'xx|'y'=>if b then z'y else z'yy|'z'=>if b then z'z else z'zz|_=>if b then z'0 else z'00).splitOn ("\r"++t++"\r") with|[_,f]=>do return z'Z (.fromRef (<-getRef)) f|_=>Macro.throwUnsupported else Macro.throwUnsupported|_=>Macro.throwUnsupported
open Lean in
local macro_rules|`(tactic|push_cast)=>`(tactic|show"pc!")|`(tactic|push_cast[$x,*])=>match z't't.splitOn "\rpc!\r" with|[_,f]=>do let s:=(z'Z (.fromRef (<-getRef)) f)[1][1][0][0][0];return s.setArg 4 (s[4].setArg 1 (mkNullNode (s[4][1].getArgs.push (mkAtom ",")++x.elemsAndSeps)))|_=>Macro.throwUnsupported
open Lean in
local macro_rules|`(tactic|show$s:str)=>match z't't.splitOn ("\r"++s.getString++"\r") with|[_,f]=>do let q:=z'Z (.fromRef (<-getRef)) f;let q:TSyntax ``Lean.Parser.Tactic.tacticSeq:=⟨q[1][1]⟩;`(tactic|($q))|_=>Macro.throwUnsupported
set_option hygiene true
open Lean in
def z'N:Nat->Syntax->Syntax
|n+1,.node _ k a=>.node .none k (a.map (z'N n))
|_,.atom _ v=>.atom .none v
|_,.ident _ r n p=>.ident .none r n p
|_,x=>x
open Lean in
local macro_rules(kind:=Lean.Parser.Command.declaration)|x=>if x.getPos?.isNone||x[1].isOfKind ``Parser.Command.theorem then Macro.throwUnsupported else let k:=z'N 9999 x[1];let u:=match k[1][0].getId with|.str _ s=>s.front.isUpper|_=>false;match k.isOfKind ``Parser.Command.definition,(x[0].reprint.getD "").trimAscii.toString,u with|true,"",false=>do return z'N 9999 (<-`(theorem $(⟨k[1]⟩):declId $(⟨.node .none ``Parser.Command.declSig #[k[2][0],k[2][1][0]]⟩):declSig $(⟨k[3]⟩):declVal))|true,"nonrec",_|true,"",_=>do return z'N 9999 (<-`(noncomputable def $(⟨k[1]⟩):declId $(⟨k[2]⟩):optDeclSig $(⟨k[3]⟩):declVal))|_,_,_=>return z'N 9999 x
open Lean in
local macro_rules|`(universe $x*)=>do let p:=`PySem.Challenge;let c:=p.str "cw_manyhands_k25_whole_no_rings_holds";return mkNullNode (<-(p.str "pw_manyhands_k25_whole_no_rings"::x.toList.map (λi=>c.str i.getId.toString)++(List.range 769).map λn=>c.str s!"o_{n+43}").toArray.mapM λn=>do return z'N 99 (<-`(noncomputable def $(mkIdent (PySem.W.Fast.stemOf n).1):ident:=0)))
universe env_41 heap_39 heap_46 heap_812 sts_101 sts_116 sts_159 sts_224 sts_254 sts_305 sts_49 sts_511 sts_548 sts_606 sts_688 sts_71 sts_769 sts_86 tree_100 tree_115 tree_158 tree_221 tree_253 tree_304 tree_425 tree_47 tree_507 tree_547 tree_605 tree_687 tree_70 tree_768 tree_811 tree_85 view_39
local macro_rules|`(tactic|omega)=>`(tactic|first|lia|omega +splitDisjunctions)
theorem z'Hd{G:Prop}(h:∀g:Prop,(G->g)->g):G:=h G λx=>x
local macro_rules|`(tactic|obtain $p:rcasesPatMed:=$e:term)=>do let s:=p.raw.reprint.getD "";if (s.splitOn ",").length>2+(s.splitOn "rfl").length then `(tactic|first|(refine z'Hd λg k=>?_;rcases $e:term with $p:rcasesPatMed<;>refine k ?_<;>clear g k)|rcases $e:term with $p:rcasesPatMed) else `(tactic|rcases $e:term with $p:rcasesPatMed)
noncomputable section
namespace L2
open PySem PySem.Spec PyProof.Rows
abbrev Key:=Sum Int Str
def Qn:Key->Value->Bool
 |.inl k,v=>Value.isInt k v
 |.inr x,v=>Value.isStrOf x v
def BH(w:yt!):Key->Int
 |.inl k=>hashInt k
 |.inr x=>hashStr w x
def bH:∀{k:Key} {v:ys!},Qn k v=true->(∃i t,k=Sum.inl i/\v=Value.int i t)\/(∃x t,k=Sum.inr x/\v=Value.str x t)
 |.inl i,v,h=>by
  obtain⟨t,e⟩:=Value.isInt_shape (k:=i) (v:=v) h;exact .inl ⟨i,t,rfl,e⟩
 |.inr x,v,h=>by
  obtain⟨t,e⟩:=Value.isStrOf_shape (x:=x) (v:=v) h;exact .inr ⟨x,t,rfl,e⟩
def zM(i:Int)(t:Tok):Qn (.inl i) dx!=true:=by simp[Qn,Value.isInt]
def rG(x:Str)(t:Tok):Qn (.inr x) lt_=true:=by simp[Qn,Value.isStrOf]
def c8a(a b:Int):decide (lt!=Sum.inl b)=fJ!:=by
 by_cases e:a=b
 .subst e;simp
 .have h:¬lt!=Sum.inl b:=λq=>e (Sum.inl.inj q);rw[HF h];exact(KR.mpr e).symm
def c7x(a b:Str):decide (lu!=Sum.inr b)=decide (a=b):=by
 by_cases e:a=b
 .subst e;simp
 .have h:¬lu!=Sum.inr b:=λq=>e (Sum.inr.inj q);rw[HF h,HF e]
def c7z(a:Int)(b:Str):decide (lt!=Sum.inr b)=false:=HF qw!
def c7y(a:Str)(b:Int):decide (lu!=Sum.inl b)=false:=HF qw!
nonrec def mixKind(prog:z3!)(w:yt!):PySem.KeyKind prog w Key where
 is:=Qn
 hash:=BH w
 inj:=λv a b ha Y=>by
  obtain⟨i,t,rfl,rfl⟩|⟨x,t,rfl,rfl⟩:=bH ha
  .obtain⟨j,u,rfl,e⟩|⟨y,u,rfl,e⟩:=bH Y
   .injection e with e1 _;rw[e1]
   .exact lu_
  .obtain⟨j,u,rfl,e⟩|⟨y,u,rfl,e⟩:=bH Y
   .exact lu_
   .injection e with e1 _;rw[e1]
 byValue:=λk v h=>by
  obtain⟨i,t,rfl,rfl⟩|⟨x,t,rfl,rfl⟩:=bH h<;>rfl
 pyHash:=λhv h=>by
  obtain⟨i,t,rfl,rfl⟩|⟨x,t,rfl,rfl⟩:=bH hv
  .exact wpAny_pyHash_int h
  .exact wpAny_pyHash_str h
 eqBool:=λhu hv h=>by
  obtain⟨i,t,rfl,rfl⟩|⟨x,t,rfl,rfl⟩:=bH hu
  .obtain⟨j,u,rfl,rfl⟩|⟨y,u,rfl,rfl⟩:=bH hv
   .rw[c8a]at h;exact wpAny_eqBool_int h
   .rw[c7z]at h;exact SeqAt.EqAt.int_str i t y u _ _ _ _ h
  .obtain⟨j,u,rfl,rfl⟩|⟨y,u,rfl,rfl⟩:=bH hv
   .rw[c7y]at h;exact SeqAt.EqAt.str_int x t j u _ _ _ _ h
   .rw[c7x]at h;exact wpAny_eqBool_str h
 «strs»:=λk x t v h=>by
  obtain⟨i,u,rfl,e⟩|⟨y,u,rfl,e⟩:=bH h
  .exact lu_
  .injection e with e1 _
   subst e1;cases v<;>rfl
def a5y(prog:z3!)(w:yt!)(i:Int)(t:Tok):(qw_).is (.inl i) dx!=true:=zM i t
def lN(prog:z3!)(w:yt!)(x:Str)(t:Tok):(qw_).is (.inr x) lt_=true:=rG x t
end L2
namespace L2
open PySem PySem.Spec PyProof.Rows
inductive V where
 |non|bl (b:Bool)|int (i:Int)|str (x:Str)|byt (b:Array UInt8)|flt (b:UInt64)|ref (a:xK!)|ty (n:String)
 deriving DecidableEq
def Bp:V->Value->Prop
 |.non,u=>u=co_
 |.bl b,u=>u=Value.bool b
 |.int i,u=>∃t,u=Value.int i t
 |.str x,u=>∃t,u=Value.str x t
 |.byt b,u=>∃t,u=Value.bytes b t
 |.flt b,u=>∃t,u=Value.float b t
 |.ref a,u=>u=Value.ref a
 |.ty n,u=>u=Value.type n
abbrev Ba:List V->List Value->Prop:=Paired Bp
def Ba.length{xs:k!}{us:g_}(r:fK_):i!=as!:=LN r
def Ba.get:∀{xs:k!} {us:g_} {i:Nat} {x:V},Ba xs us->xs[i]?=some x->∃u,us[i]?=some u/\Bp x u
 |_,_,_,_,.nil,e=>by simp at e
 |_,_,0,_,.cons r _,e=>by simp at e;subst e;exact lv!
 |_,_,i+1,x,.cons _ t,e=>by
  obtain⟨u,B,J⟩:=Ba.get (i:=i) (x:=x) t cP_;exact⟨u,hN_,J⟩
def Ba.set{x:V}{u:ys!}(r:Bp x u):∀{xs:k!} {us:g_} (i:Nat),Ba xs us->Ba (xs.set i x) (us.set i u)
 |_,_,_,.nil=>.nil
 |_,_,0,.cons _ t=>.cons r t
 |_,_,i+1,.cons q t=>.cons q (Ba.set r i t)
def Ba.append:∀{xs ys:k!} {us ws:g_},Ba xs us->Ba ys ws->Ba eq! (us++ws)
 |_,_,_,_,.nil,s=>s
 |_,_,_,_,.cons r t,s=>.cons r (Ba.append t s)
def Ba.take:∀{xs:k!} {us:g_} (n:Nat),Ba xs us->Ba (xs.take n) (us.take n)
 |_,_,0,_=>.nil
 |_,_,_+1,.nil=>.nil
 |_,_,n+1,.cons r t=>.cons r (Ba.take n t)
def Ba.drop:∀{xs:k!} {us:g_} (n:Nat),Ba xs us->Ba (xs.drop n) (us.drop n)
 |_,_,0,r=>r
 |_,_,_+1,.nil=>.nil
 |_,_,n+1,.cons _ t=>Ba.drop n t
def Nr:Option V->Option Value->Prop
 |some v,some u=>Bp v u
 |none,none=>True
 |_,_=>False
def KV{κ:Type}:List (κ×V)->List lv_->Prop:=Paired λ(p:κ×V) (q:κ×Value)=>p.1=q.1/\Bp p.2 q.2
nonrec def kV:Key->V
 |.inl i=>.int i
 |.inr x=>.str x
inductive HO where
 |lst (xs:k!)
 |tup (xs:k!)
 |dK (kvs:List (Key×V))|dT (kvs:hO_)
 |set (S:Int->Bool) (n:Nat)
 |ins (C dx:xK!) (fs:eq_)
 |own (x:xK!)
 |xd (fs:eq_)
 |met (f x:xK!)
 |rng (lo hi:Int)
 |frz (o:Obj) (u:HO)
 |tbl (ps:aa_)
 |ext (φ:Heap->Prop)
abbrev Hp:=Addr->Option HO
nonrec def upd(H:Hp)(a:xK!)(o:HO):Hp:=λb=>if b=a then some o else H b
def bR{H:Hp}{a:xK!}{o:HO}:upd H a o a=some o:=by unfold upd;rw[m_]
def aY{H:Hp}{a b:xK!}{o:HO}(h:b≠a):upd H a o b=H b:=by unfold upd;rw[GS h]
def cC{H:Hp}{a b:xK!}{o:HO}(h:H a=some o)(h':H b=none):a≠b:=by intro e;subst e;rw[h]at h';cases h'
section
variable(P:z3!)(w:yt!)
def Er(H:Hp)(h:Heap)(a:xK!):HO->Prop
 |.lst xs=>i!<=sizeLine/\∃(its:g_) (n:Nat),Ba xs its/\h.get? a=some {cls:=.type "list",data:=.seq its.toArray n}
 |.tup xs=>i!<=sizeLine/\∃its:List Value,Ba xs its/\IsTup h a aO!
 |.dK kvs=>az!<=sizeLine/\dy!=false/\∃vs,KV kvs vs/\h.DictOf bn! a vs
 |.dT kvs=>az!<=sizeLine/\dy!=false/\∃xs:List lw_,
   Paired (λ(p:List Key×V) (q:List Key×Addr×Value)=>p.1=q.1/\H q.2.1=some qA!/\Bp p.2 q.2.2) kvs xs/\
   ∃o es ep,h.get? a=some o/\hP_/\o.data=.dict es ep/\es.toList=xs.map (entryOfKey fL_)/\(xs.map b_).Nodup
 |.set S n=>h.SetOf (intKind P w) a S n
 |.ins C dx fs=>H dx=some fS_/\bn_<=1000/\dx≠a/\h.get? a=some ly!/\
   ∃mA,h.Ns1 dx mA/\qB_/\PySem.Within mA ly_
 |.own _=>∃o,h.get? a=some o
 |.xd fs=>∃mA,h.Ns1 a mA/\∀f,Nr (fs.lookup f) (mA f)
 |.rng lo hi=>∃t u v,h.get? a=some {cls:=.type "range",data:=.fields #[.int lo t,.int hi u,.int 1 v]}
 |.frz o u=>h.get? a=some o/\Er H h a u
 |.tbl ps=>h.get? a=some {cls:=.none,data:=.fields ps}
 |.met f x=>h.get? a=some (W.methodObj ah! fM!)
 |.ext φ=>φ h/\(∃o,h.get? a=some o)/\∀B J:Heap,φ B->(∀o,B.get? a=some o->J.get? a=some o)->φ J
def Lm(H:Hp)(h:Heap):Prop:=∀a o,H a=some o->Er P w H h a o
end
section
variable{P:z3!}{w:yt!}{H H':Hp}{h h':Heap}{a:xK!}{o:HO}
def Er.lt(x:lz!):a<b0_:=by
 cases o with
 |lst xs=>obtain⟨_,_,_,_,e⟩:=x;exact HR e
 |tup xs=>obtain⟨_,_,_,p⟩:=x;exact p.lt
 |dK kvs=>obtain⟨_,_,_,_,o,_,_,e,_⟩:=x;exact HR e
 |dT kvs=>obtain⟨_,_,_,_,o,_,_,e,_⟩:=x;exact HR e
 |set S n=>obtain⟨o,_,_,_,e,_⟩:=x;exact HR e
 |ins C dx fs=>obtain⟨_,_,_,e,_⟩:=x;exact HR e
 |own y=>obtain⟨_,e⟩:=x;exact HR e
 |xd fs=>obtain⟨_,⟨_,_,_,e,_⟩,_⟩:=x;exact HR e
 |rng lo hi=>obtain⟨_,_,_,e⟩:=x;exact HR e
 |frz ob u=>obtain⟨e,_⟩:=x;exact HR e
 |tbl ps=>exact HR hS!
 |met f y=>exact HR hS!
 |ext φ=>obtain⟨_,⟨_,e⟩,_⟩:=x;exact HR e
def Paired.mapP{α β:Type}{F G:cQ_}:∀{l₁:H_} {l₂:dy_},Paired F l₁ l₂->(∀a b,F a b->G a b)->Paired G l₁ l₂
 |_,_,.nil,_=>.nil
 |_,_,.cons r t,f=>.cons (f _ _ r) (Paired.mapP t f)
def Er.stay(x:lz!)(k:∀b u,(b=a\/H b=some fS_)->h.get? b=some u->h'.get? b=some u)
  (ho:∀b,H b=some fS_->H' b=some fS_)(ht:qC!):Er P w H' h' a o:=by
 induction o with
 |lst xs=>obtain⟨z,its,n,r,e⟩:=x;exact⟨z,its,n,r,bJ_⟩
 |tup xs=>obtain⟨z,its,r,ob,e,c⟩:=x;exact⟨z,its,r,ob,bJ_,c⟩
 |dK kvs=>obtain⟨z,y,vs,r,ob,es,ep,e,c⟩:=x;exact⟨z,y,vs,r,ob,es,ep,bJ_,c⟩
 |dT kvs=>
  obtain⟨z,y,xs,r,ob,es,ep,e,c⟩:=x;exact⟨z,y,xs,Paired.mapP r λp q z=>⟨z.1,ht _ _ z.2.1,z.2.2⟩,ob,es,ep,bJ_,c⟩
 |set S n=>obtain⟨ob,es,ep,t,e,c⟩:=x;exact⟨ob,es,ep,t,bJ_,c⟩
 |ins C dx fs=>
  obtain⟨d,z,ne,e,mA,⟨od,es,ep,e2,c⟩,r⟩:=x;exact⟨ho _ d,z,ne,bJ_,mA,⟨od,es,ep,k _ _ (.inr d) e2,c⟩,r⟩
 |own y=>obtain⟨ob,e⟩:=x;exact⟨ob,bJ_⟩
 |xd fs=>obtain⟨mA,⟨od,es,ep,e,c⟩,r⟩:=x;exact⟨mA,⟨od,es,ep,bJ_,c⟩,r⟩
 |rng lo hi=>obtain⟨t,u,v,e⟩:=x;exact⟨t,u,v,bJ_⟩
 |frz ob u ih=>obtain⟨e,q⟩:=x;exact⟨bJ_,ih q⟩
 |tbl ps=>
  have e:h.get? a=some {cls:=.none,data:=.fields ps}:=x;show h'.get? a=some {cls:=.none,data:=.fields ps};exact k a _ aF_ e
 |met f y=>
  have e:h.get? a=some qE!:=x;show h'.get? a=some qE!;exact k a _ aF_ e
 |ext φ=>obtain⟨p,⟨o,e⟩,st⟩:=x;exact⟨st _ _ p λo q=>k _ _ aF_ q,⟨o,bJ_⟩,st⟩
def Lm.lt(x:ba!)(e:H a=some o):a<b0_:=(x a o e).lt
def Lm.fresh(x:ba!)(e:b0_<=a):H a=none:=by
 cases q:H a with
 |none=>rfl
 |some u=>exact absurd (HP (x.lt q) e) dz!
def Lm.kept(x:ba!)(k:hU!):Lm P w H h':=λa o e=>
 (x a o e).stay (λb u _ q=>k b u q) fO! λ_ _ q=>q
def Lm.laid(x:ba!)(k:hU!)(hp:b0_<=a)(new:Er P w cR! h' a o):Lm P w cR! h':=λb u e=>by
 have hn:=x.fresh hp;by_cases Y:b=a
 .show"!x";exact new
 .rw[aY Y]at e;exact(x b u e).stay (λc v _ q=>k c v q) (λc q=>by rw[fO_];exact q) λc xs q=>by rw[fO_];exact q
end
def Rd(H:Hp)(a:xK!)(u:HO):Prop:=H a=some u\/∃o,H a=some fP!
def Rd.ok{P:z3!}{w:yt!}{H:Hp}{h:Heap}{a:xK!}{u:HO}(r:Rd H a u)(x:ba!):Er P w H h a u:=by
 obtain r|⟨o,r⟩:=r
 .exact x a u r
 .obtain⟨_,q⟩:=x a _ r;exact q
def BS:Option HO->Prop
 |some (.lst _)=>True
 |some (.dK _)=>True
 |some (.dT _)=>True
 |some (.set _ _)=>True
 |some (.ins _ _ _)=>True
 |some (.ext _)=>True
 |_=>False
section
variable{P:z3!}{w:yt!}{H:Hp}{h h':Heap}{x e:xK!}{o':HO}
def Lm.write(ok:ba!)(mu:BS (H x))(he:lC!)(k:qF!)(qf:lC_)
  (new:Er P w (upd H x o') h' x o'):Lm P w (upd H x o') h':=λb u q=>by
 have S':∀c y,H c=some (.own y)->c≠x:=λc y r z=>by subst z;rw[r]at mu;exact mu
 have X2:∀c xs,H c=some bJ!->c≠x:=λc xs r z=>by subst z;rw[r]at mu;exact mu
 by_cases Y:b=x
 .subst Y;rw[bR]at q;cases q;exact new
 .rw[aY Y]at q;by_cases ji:b=e
  .have q':H b=some hV_:=by
    obtain z|z:=he
    .exact absurd (ji.trans z) Y
    .rw[ji];exact z
   rw[q]at q';cases q';obtain⟨v,hv⟩:=qf;exact⟨v,by rw[ji];exact hv⟩
  .refine(ok b u q).stay (λc v hc r=>k c v ?_ r) (λc r=>by rw[aY (S' c b r)];exact r) λc xs r=>by rw[aY (X2 c xs r)];exact r
   obtain rfl|hc:=hc
   .exact ji
   .rintro rfl;obtain z|z:=he
    .exact S' c b hc z
    .rw[hc]at z;cases z;exact Y rfl
end
structure Un(fs ex:J!)(H H':Hp)(h h':Heap):Prop where
 keep:∀b o,h.get? b=some o->H b=none->b∉fs->b∉ex->h'.get? b=some o
 slot:∀b o,h.get? b=some o->H b=none->b∈fs->b∉ex->∃sl,h'.get? b=some {o with slots:=sl}
 free:∀b o,h.get? b=some o->H b=none->b∉ex->H' b=none
 there:∀b o,h.get? b=some o->b∉ex->∃o',h'.get? b=some o'
 tups:∀b xs,H b=some bJ!->H' b=some bJ!
 frzs:∀b o u,H b=some fP!->H' b=some fP!
 tbls:∀b ps,H b=some (.tbl ps)->∃qg,H' b=some qG_
section
variable{fs qh ex TB:List Addr}{H H1 H2:Hp}{h B J h':Heap}{a x e:xK!}{o:HO}
def Un.any(u:qH!){b:xK!}(q:h.get? b=some ob)(n:H b=none)(hx:b∉ex):∃sl,B.get? b=some {ob with slots:=sl}:=by
 by_cases Y:b∈fs
 .exact u.slot b ob q n Y hx
 .exact⟨ob.slots,u.keep b ob q n Y hx⟩
def Un.kept(k:hU!):Un fs ex H H h h':=
 ⟨λb ob q _ _ _=>k b ob q,λb ob q _ _ _=>⟨ob.slots,k b ob q⟩,λ_ _ _ n _=>n,λb ob q _=>⟨ob,k b ob q⟩,λ_ _ q=>q,λ_ _ _ q=>q,λ_ ps q=>⟨#[],by rw[q];simp⟩⟩
def Un.refl:Un fs ex H H h h:=Un.kept λ_ _ q=>q
def Un.laid(k:hU!)(hp:b0_<=a)(hn:hX_):Un fs ex H cR! h h' where
 keep:=λb u q _ _ _=>k b u q
 slot:=λb u q _ _ _=>⟨u.slots,k b u q⟩
 free:=λb u q n _=>by rw[aY (II (HP (HR q) hp))];exact n
 there:=λb u q _=>⟨u,k b u q⟩
 tups:=λb xs q=>by rw[fO_];exact q
 frzs:=λb u xs q=>by rw[fO_];exact q
 tbls:=λb ps q=>⟨#[],by rw[fO_,q];simp⟩
def Un.write(mu:BS (H x))(he:lC!)(k:qF!)(qf:lC_):Un fs ex H lD_ h h':=by
 have hx:∀b,H b=none->b≠x:=λb n z=>by subst z;rw[n]at mu;exact mu
 have Y:∀b,H b=none->b≠e:=λb n z=>by
  subst z;obtain r|r:=he
  .exact hx b n r
  .rw[n]at r;cases r
 have hm:∀b u,H b=some u->¬BS (some u)->b≠x:=λb u q nm z=>by subst z;rw[q]at mu;exact nm mu
 refine⟨λb u q n _ _=>k b u (Y b n) q,λb u q n _ _=>⟨u.slots,k b u (Y b n) q⟩,λb u q n _=>by rw[aY (hx b n)];exact n,λb u q _=>?_,
  λb xs q=>by rw[lE!];exact q,λb u xs q=>by rw[lE!];exact q,λb ps q=>⟨#[],by rw[lE!,q];simp⟩⟩
 by_cases ji:b=e
 .subst ji;exact qf
 .exact⟨u,k b u ji q⟩
def Un.mono(u:qH!)(hs:∀b∈fs,b∈qh)(hx:∀b∈ex,b∈TB):Un qh TB H H1 h B:=
 ⟨λb ob q n Y he=>u.keep b ob q n (λz=>Y (hs b z)) λz=>he (hx b z),λ_ _ q n _ he=>u.any q n λz=>he (hx _ z),λb ob q n he=>u.free b ob q n λz=>he (hx b z),λb ob q he=>u.there b ob q λz=>he (hx b z),u.tups,u.frzs,u.tbls⟩
end
def CD(h:Heap)(H:Hp):List Addr:=(qL_).filter λa=>(H a).isSome
def Sc(h:Heap)(H:Hp):Heap:=W.hideAll h (CD h H)
def b4s(h:Heap)(H:Hp):(hY!).objs.size=b0_:=W.hideAll_size _ _
def b9m{h:Heap}{H:Hp}{b:xK!}{o:Obj}(e:qM!)(n:H b=none):(hY!).get? b=some o:=
 W.hideAll_get _ e λhm=>by
  have q:(H b).isSome=true:=(MB.mp hm).2;rw[n]at q;simp at q
def c2x{h:Heap}{H:Hp}{b:xK!}{o:Obj}(e:(hY!).get? b=some o):h.get? b=some o/\H b=none:=by
 have e':h.get? b=some o:=W.of_hideAll (CD h H) e;refine⟨e',?_⟩;cases q:H b with
 |none=>rfl
 |some x=>
  have hm:b∈CD h H:=MB.mpr ⟨NP.mpr (HR e'),by simp[q]⟩;have z:(hY!).get? b=none:=W.hideAll_none (CD h H) hm;rw[z]at e;cases e
def Xt(g h:Heap)(L:xK!):List et_:=(qL_).filterMap λa=>if a=L\/(g.get? a).isSome=true then none else(h.get? a).map λo=>(a,o)
nonrec def rest(g h:Heap)(L d:xK!):List et_:=(Xt g h L).filter λp=>decide (p.1≠d)
end L2
namespace L2
open PySem PySem.Spec PyProof.Rows
structure Mod(K:z1!)(mg:y_)(base:Heap):Prop where
 kin:K.In base
 glob:base.Ns mainGlobals mg
 blt:∃mb,base.Ns builtinsNs mb/\∀x:Str,x≠"__name__"->mb x=bootBuiltins x
 nolimit:base.NoLimit
structure Cx where
 prog:Program
 w:World
 K:W.Frag
 mg:Str->Option Value
 base:Heap
 A:Around
 N:List Str
 s₀:Shared
 H₀:Hp
 env:Env
 outer:List Env
 stack:List Env
 ex:List Addr
 fn:Str->Bool
 calm:Bool
 pn:List et_
 xe:Value->Shared->Prop
nonrec def frs(l:V_):List Addr:=l.filterMap (·.frame)
abbrev Cx.fs(X:Cx):List Addr:=frs X.outer
def Vi(sc:Scope)(x:Str):Prop:=sc.names.lookup x=some .local\/sc.names.lookup x=some .cell\/sc.names.lookup x=some .free
def Vm(sc:Scope)(x:Str):Prop:=sc.names.lookup x=some .local\/sc.names.lookup x=some .cell
def BU(env:Env)(h:Heap)(m:y_)(x:Str)(u:ys!):Prop:=
 (env.kindOf x=some .local/\m x=some u)\/((env.kindOf x=some .cell\/env.kindOf x=some .free)/\∃c,env.cells.lookup x=some c/\h.IsCell c (some u))
structure Cx.Ok(X:Cx):Prop where
 mod:Mod X.K X.mg X.base
 kind:lG_=.function
 glob:X.env.globals=mainGlobals
 blt:X.env.builtins=builtinsNs
 above:dz_<=X.env.locals
 inj:∀x y c,X.env.cells.lookup x=some c->X.env.cells.lookup y=some c->x=y
 has:∀x,qP!->∃c,X.env.cells.lookup x=some c
 cab:∀x c,X.fn x=true->X.env.cells.lookup x=some c->dz_<=c
 hd:X.calm=true->ev!=none
 frames:X.A.frames=some X.stack
 stk:X.stack=X.outer\/(X.stack=X.env::X.outer/\X.env.frame=some X.env.locals)
 exf:∀b∈X.ex,b≠X.env.locals/\∀x c,X.env.cells.lookup x=some c->c≠b
 bs:∀b o,X.base.get? b=some o->X.s₀.heap.get? b=some o/\X.H₀ b=none
 bsz:X.base.objs.size<=dz_
 noex:∀b o,X.base.get? b=some o->b∉X.ex
 exfs:∀b∈X.ex,b∉X.fs
 funs:X.s₀.heap.FunFrames X.base X.outer
 frf:∀b∈X.fs,X.H₀ b=none
structure Inv(X:Cx)(O:j!)(Z:List (Option V))(H:Hp)(s:z2!):Prop where
 ok:X.Ok
 os:s.os=X.s₀.os
 bare:AllBare s.gens
 base:Un X.fs X.ex X.H₀ H X.s₀.heap s.heap
 loc:∃m,s.heap.Ns X.env.locals m/\∀(i:Nat) (x:Str) (v:V),X.N[i]?=some x->Z[i]?=some ba_->Vi X.env.scope x->∃u,Bp v u/\BU X.env s.heap m x u
 cell:∀x c,X.env.cells.lookup x=some c->∃v,s.heap.IsCell c v
 free:H X.env.locals=none
 freeC:∀x c,X.env.cells.lookup x=some c->H c=none
 pin:∀p∈X.pn++O,s.heap.get? p.1=some p.2/\H p.1=none/\p.1≠X.env.locals/\p.1∉X.fs/\∀v,p.2.data≠.cell v
 hok:Lm X.prog X.w H s.heap
 len:ev_=lH_
section
variable{X:Cx}{O:List (Addr×Obj)}{Z:List (Option V)}{H H':Hp}{s:z2!}{h':Heap}
def Cx.Ok.nofr(ok:X.Ok){b:xK!}{o:Obj}(e:X.base.get? b=some o):b∉X.fs:=λY=>by
 have:=(ok.funs.mem Y).1;rw[e]at this;cases this
def Inv.bs(I:c!):∀b o,X.base.get? b=some o->s.heap.get? b=some o/\H b=none:=λb o e=>
 ⟨I.base.keep b o (hY_).1 (hY_).2 (I.ok.nofr e) qR!,I.base.free b o (hY_).1 (hY_).2 qR!⟩
def Inv.bk(I:c!):∀b o,X.base.get? b=some o->s.heap.get? b=some o:=λb o e=>(I.bs b o e).1
def Inv.mod(I:c!):Mod X.K X.mg X.base:=I.ok.mod
def Inv.kIn(I:c!):X.K.In s.heap:=I.ok.mod.kin.keeps I.bk
def Inv.lt(I:c!):X.env.locals<k_:=let⟨_,hn,_⟩:=I.loc;hn.lt
def Inv.sz(I:c!):dz_<=k_:=IE I.ok.above (LY I.lt)
def Inv.nofs(I:c!){a:xK!}(h:k_<=a):a∉X.fs:=λY=>by
 obtain⟨_,o,ho,_⟩:=I.ok.funs.mem Y;exact absurd (HP hZ! (IE I.sz h)) dz!
def Inv.cne(I:c!):∀x c,X.env.cells.lookup x=some c->c≠X.env.locals:=λx c e z=>by
 obtain⟨v,o,ho,hd⟩:=I.cell x c e;obtain⟨m,⟨o',es,ep,dz,tj,_⟩,_⟩:=I.loc;rw[z,dz]at ho;cases ho;rw[tj]at hd;cases hd
def Inv.funs(I:c!):s.heap.FunFrames X.base X.outer:=by
 have all:∀(l:V_),(∀b∈frs l,b∈X.fs)->X.s₀.heap.FunFrames X.base l->s.heap.FunFrames X.base l:=by
  intro l
  induction l with
  |nil=>intro _ _;trivial
  |cons env r ih=>
   intro hs hl;obtain⟨hk,⟨L,o,hf,hn,ho,hd⟩,hr⟩:=hl;have hL:L∈X.fs:=hs L (by unfold frs;rw[MZ,hf];exact GX);obtain⟨sl,e⟩:=I.base.slot L o ho (I.ok.frf L hL) hL λz=>I.ok.exfs L z hL
   exact⟨hk,⟨L,_,hf,hn,e,hd⟩,ih (λb Y=>hs b (by unfold frs;rw[MZ,hf];exact GP _ Y)) hr⟩
 exact all X.outer (λ_ Y=>Y) I.ok.funs
def Inv.stack(I:c!):s.heap.FunFrames X.base X.stack:=by
 obtain e|⟨e,hf⟩:=I.ok.stk
 .rw[e];exact I.funs
 .rw[e];obtain⟨m,hn,_⟩:=I.loc;refine .cons (by rw[I.ok.kind];decide) hf hn ?_ I.funs;exact Heap.get?_none_of_le (IE I.ok.bsz I.ok.above)
def Inv.stkSub(I:c!):∀b∈frs X.stack,b∈X.env.locals::X.fs:=λb Y=>by
 obtain e|⟨e,hf⟩:=I.ok.stk
 .rw[e]at Y;exact GP _ Y
 .rw[e]at Y;unfold frs at Y;rw[MZ,hf]at Y;exact Y
def Inv.stkFree(I:c!):∀b∈frs X.stack,H b=none:=λb Y=>by
 obtain e|Y:=GR.mp (I.stkSub b Y)
 .rw[e];exact I.free
 .obtain⟨_,o,ho,_⟩:=I.ok.funs.mem Y;exact I.base.free b o ho (I.ok.frf b Y) λz=>I.ok.exfs b z Y
def Inv.step{g':lJ_}{t':Nat}{d':Drawn}{ch:J!}(I:c!)
  (iu:∀b∈ch,hZ_/\b≠X.env.locals/\h0!/\∀p∈X.pn++O,p.1≠b)
  (keep:∀b o,b≠X.env.locals->b∉X.fs->b∉ch->s.heap.get? b=some o->H b=none->h'.get? b=some o)
  (slot:∀b o,b≠X.env.locals->b∈X.fs->b∉ch->s.heap.get? b=some o->H b=none->∃sl,h'.get? b=some {o with slots:=sl})(free:∀b o,b∉ch->s.heap.get? b=some o->H b=none->H' b=none)
  (there:∀b o,b∉ch->s.heap.get? b=some o->∃o',h'.get? b=some o')
  (tups:qC!)(frzs:∀b o u,H b=some fP!->H' b=some fP!)(tbls:∀b ps,H b=some (.tbl ps)->∃qg,H' b=some qG_)
  (ns:∀m,s.heap.Ns X.env.locals m->h'.Ns X.env.locals m)(hok:h1!)(hg:lK!):
  Inv X O Z H' {s with heap:=h',gens:=g',drawn:=d',toks:=t'}:=by
 have TC:∀b o,X.s₀.heap.get? b=some o->b≠X.env.locals:=λb o e=>II lK_;have v0:∀b o,X.s₀.heap.get? b=some o->b∉X.ex->b∉ch:=λb o e hx Y=>by
  obtain z|z:=(iu b Y).1
  .exact hx z
  .exact absurd (HP cR_ z) dz!
 have TD:∀x c,X.env.cells.lookup x=some c->∀v,s.heap.IsCell c v->h'.IsCell c v:=λx c e v ⟨o,ho,hd⟩=>by
  have tu:c∉ch:=λz=>(iu c z).2.2.1 x c e rfl;by_cases hc:c∈X.fs
  .obtain⟨sl,q⟩:=slot c o (I.cne x c e) hc tu ho lL!;exact⟨_,q,hd⟩
  .exact⟨o,keep c o (I.cne x c e) hc tu ho lL!,hd⟩
 refine⟨I.ok,I.os,hg,⟨fS!,fS!,λb o e n hx=>?_,lL_,λb xs e=>tups b xs (I.base.tups b xs e),λb o xs e=>frzs b o xs (I.base.frzs b o xs e),λb ps e=>?_⟩,?_,lM_,?_,lM_,cS!,hok,I.len⟩
 .exact keep b o (TC b o e) Y h2! h2_ lN_
 .show"!=";obtain⟨X3,e2⟩:=slot b _ (TC b o e) Y h2! e1 lN_;exact⟨X3,e2⟩
 .show"!8";exact free b o' h2! e1 lN_
 .show"!8";exact there b o' h2! e1
 .obtain⟨m1,e1⟩:=I.base.tbls b ps e;obtain⟨m2,e2⟩:=tbls b _ e1;exact⟨m1++m2,by rw[e2,Array.append_assoc]⟩
 .obtain⟨m,hn,hl⟩:=I.loc;refine⟨m,ns m hn,qW!⟩;obtain⟨u,r,l⟩:=hl i x v e1 e2 e3;refine⟨u,r,?_⟩;obtain l|⟨k,c,e,z⟩:=l
  .exact .inl l
  .exact .inr ⟨k,c,e,TD x c e _ z⟩
 .obtain⟨v,z⟩:=I.cell x c e;exact⟨v,TD x c e v z⟩
 .obtain⟨m,⟨o,_,_,ho,_⟩,_⟩:=I.loc;exact free _ o (λz=>(iu _ z).2.1 rfl) ho I.free
 .obtain⟨v,o,ho,hd⟩:=I.cell x c e;exact free c o (λz=>(iu c z).2.2.1 x c e rfl) ho lL!
 .show"!O";have tu:p.1∉ch:=λz=>(iu p.1 z).2.2.2 p hp rfl;exact⟨keep p.1 p.2 ne nf tu e n,free p.1 p.2 tu e n,ne,nf,d⟩
def Inv.un{t':Nat}(I:c!)(u:Un X.fs [] H H' s.heap h')(hok:h1!):Inv X O Z H' {s with heap:=h',toks:=t'}:=by
 obtain⟨m,⟨o,es,ep,ho,r⟩,_⟩:=id I.loc;obtain⟨sl,hL⟩:=u.any ho I.free c_;exact I.step (g':=s.gens) (d':=s.drawn) (ch:=[]) qY! (λb o _ Y _ e n=>u.keep b o e n Y c_) (λb o _ Y _ e n=>u.slot b o e n Y c_) (λb o _ e n=>u.free b o e n c_) (λb o _ e=>u.there b o e c_) u.tups u.frzs u.tbls (λm' hm=>by
  obtain⟨o',a7,be,dz,r'⟩:=hm;rw[ho]at dz;cases dz;exact qZ!) hok I.bare
def Inv.call{g':lJ_}{t':Nat}{d':Drawn}{ch:J!}(I:c!)(u:Un h4! ch H H' s.heap h')(hok:h1!)(hg:lK!)
  (iu:∀b∈ch,hZ_/\b≠X.env.locals/\h0!/\∀p∈X.pn++O,p.1≠b):
  Inv X O Z H' {s with heap:=h',gens:=g',drawn:=d',toks:=t'}:=by
 obtain⟨m,⟨o,es,ep,ho,r⟩,_⟩:=id I.loc;obtain⟨sl,hL⟩:=u.any ho I.free λz=>(iu _ z).2.1 rfl
 exact I.step (ch:=ch) iu (λb o hL Y hc e n=>u.keep b o e n (λz=>(GR.mp (I.stkSub b z)).elim hL Y) hc) (λb o _ _ hc e n=>u.any e n hc) (λb o hc e n=>u.free b o e n hc) (λb o hc e=>u.there b o e hc) u.tups u.frzs u.tbls (λm' hm=>by
  obtain⟨o',a7,be,dz,r'⟩:=hm;rw[ho]at dz;cases dz;exact qZ!) hok hg
def Inv.turned{t':Nat}(I:c!)(k:∀b o,b≠it->s.heap.get? b=some o->h'.get? b=some o)(hn:H it=none)(hL:it≠X.env.locals)
  (B:it∈X.ex\/dz_<=it)(J:∀x c,X.env.cells.lookup x=some c->c≠it)(h3:∀p∈X.pn++O,p.1≠it):Inv X O Z H {s with heap:=h',toks:=t'}:=by
 have qi:∀b u,H b=some u->b≠it:=λb u e z=>by rw[z,hn]at e;cases e
 refine I.step (g':=s.gens) (d':=s.drawn) (ch:=[it]) h4_ (λb o _ _ hc e _=>k b o lP! e) (λb o _ _ hc e _=>⟨o.slots,k b o lP! e⟩) h5!
  (λb o hc e=>⟨o,k b o lP! e⟩) h5_ h6! (λb ps e=>lP_) h6_ q5_ I.bare
 .have e:b=it:=by simpa using Y
  subst e;exact⟨B,hL,J,h3⟩
 .obtain⟨o,es,ep,ho,r⟩:=hm;exact⟨o,es,ep,k _ o (GT hL) ho,r⟩
 .refine(lQ!).stay (λc v hc q=>k c v ?_ q) fO! λ_ _ q=>q;obtain z|z:=hc
  .rw[z];exact qi b u e
  .exact qi c _ z
def Inv.tok(I:c!)(t:Nat):Inv X O Z H {s with toks:=t}:=I.un (h':=s.heap) (t':=t) Un.refl I.hok
def Inv.kept{t':Nat}(I:c!)(k:q6!):Inv X O Z H {s with heap:=h',toks:=t'}:=I.un (Un.kept k) (I.hok.kept k)
def Inv.laid{a:xK!}{o:HO}{t':Nat}(I:c!)(k:q6!)(hp:k_<=a)(new:Er X.prog X.w cR! h' a o):
  Inv X O Z cR! {s with heap:=h',toks:=t'}:=I.un (Un.laid k hp (I.hok.fresh hp)) (I.hok.laid k hp new)
def Inv.write{x e:xK!}{o:HO}{t':Nat}(I:c!)(mu:BS (H x))(he:lC!)(k:∀b u,b≠e->s.heap.get? b=some u->h'.get? b=some u)(qf:lC_)
  (new:Er X.prog X.w lD_ h' x o):Inv X O Z lD_ {s with heap:=h',toks:=t'}:=I.un (Un.write mu he k qf) (I.hok.write mu he k qf new)
def Inv.pins_of{qj:j!}(I:c!)(h:∀p∈qj,s.heap.get? p.1=some p.2/\H p.1=none/\p.1≠X.env.locals/\p.1∉X.fs/\∀v,p.2.data≠.cell v):Inv X qj Z H s:=
 ⟨I.ok,I.os,I.bare,I.base,I.loc,I.cell,I.free,I.freeC,λp hp=>(GZ.mp hp).elim (λz=>I.pin p h7_) (h p),I.hok,I.len⟩
def a5s{N:n!}(hN:N.Nodup){i j:Nat}{x:Str}(a:N[i]?=some x)(b:N[j]?=some x):i=j:=by obtain⟨B,e1⟩:=HC.mp a;obtain⟨J,e2⟩:=HC.mp b;exact(List.getElem_inj hN).mp q8!
def yN{M:Model}{A:xX!}{E:n_}{i:Nat}{x:Str}{v:V}{u:ys!}{Q:cS_}(I:c!)(hN:aW_)(hi:ad_)(hx:bb!)(r:bo_)
  (h:∀s',Inv X O ex_ H s'->(∃a,Heap.SameBut a s.heap s'.heap/\(a=X.env.locals\/X.env.cells.lookup x=some a))->Q () s')(hf:X.fn x=true\/X.env.scope.names.lookup x=some .local:=by first|exact .inl rfl|exact .inr rfl|assumption):wpAny M A q8_ Q E s:=by
 obtain⟨m,hn,hl⟩:=id I.loc;have X4:(lG_==.class||(lG_==.module&&X.env.locals != X.env.globals))=false:=by rw[I.ok.kind];rfl
 have TF:i<ev_:=by rw[I.len];exact(HC.mp hi).1
 have cne:=I.cne;have TH:∀{a:xK!} {h':Heap},(∃o,s.heap.get? a=some o/\H a=none)->Heap.SameBut a s.heap h'->Lm X.prog X.w H h':=λ{a h'} ha hs b ob e=>by
  obtain⟨_,_,il⟩:=ha;refine(q9!).stay q9_ fO! λ_ _ q=>q;rintro rfl;obtain rfl|hc:=hc
  .rw[il]at e;cases e
  .rw[il]at hc;cases hc
 obtain hk|hk:=hx
 .refine wpAny_storeName_local hk hn (λh' qk hs=>?_) X4;obtain⟨oL,_,_,mf,_⟩:=id hn;refine h _ ⟨I.ok,I.os,I.bare,ra!,⟨_,qk,ra_⟩,λy c e=>?_,I.free,I.freeC,cS!,TH ⟨oL,mf,I.free⟩ hs,rb!⟩ ⟨_,hs,cT!⟩
  .exact(lS_).trans h2_
  .show"!=";exact⟨sl,(lS_).trans e1⟩
  .show"!8";exact⟨o',(lS_).trans e1⟩
  .by_cases hj:j=i
   .show"#(";exact⟨u,r,.inl ⟨hk,F!⟩⟩
   .rw[lT!]at e2;obtain⟨u',r',q⟩:=hl j y v' e1 e2 e3;refine lU!;obtain⟨k,e⟩|⟨k,c,e,z⟩:=q
    .refine .inl ⟨k,?_⟩;have:y≠x:=λe=>hj (a5s hN e1 (e▸hi));simp[this,e]
    .exact .inr ⟨k,c,e,rc_⟩
  .obtain⟨w',z⟩:=I.cell y c e;exact⟨w',rc_⟩
  .show"!O";exact rd!
 .have yi:X.fn x=true:=by
   obtain z|z:=hf
   .exact z
   .rw[z]at hk;cases hk
  obtain⟨c,hc⟩:=I.ok.has x lV!;obtain⟨w',z⟩:=I.cell x c hc;refine wpAny_storeName_cell I.ok.kind hk hc z (λh' bn hs=>?_);obtain⟨oc,TJ,X5⟩:=id z;refine h {s with heap:=h'} ⟨I.ok,I.os,I.bare,ra!,⟨m,hn.sameBut hs (GT (cne x c hc)),ra_⟩,λy c' e=>?_,I.free,I.freeC,cS!,TH ⟨oc,TJ,I.freeC x c hc⟩ hs,rb!⟩ ⟨c,hs,.inr hc⟩
  .exact(lW!).trans h2_
  .show"!=";exact⟨sl,(lW!).trans e1⟩
  .show"!8";exact⟨o',(lW!).trans e1⟩
  .by_cases hj:j=i
   .show"#(";exact⟨u,r,.inr ⟨.inl hk,c,hc,bn⟩⟩
   .rw[lT!]at e2;obtain⟨u',r',q⟩:=hl j y v' e1 e2 e3;refine lU!;obtain q|⟨k,c',e,z'⟩:=q
    .exact .inl q
    .refine .inr ⟨k,c',e,z'.sameBut hs ?_⟩;rintro rfl;exact hj (a5s hN e1 (I.ok.inj _ _ _ e hc▸hi))
  .by_cases j8:c'=c
   .subst j8;exact⟨_,bn⟩
   .obtain⟨w2,z2⟩:=I.cell y c' e;exact⟨w2,z2.sameBut hs j8⟩
  .show"!O";refine⟨(hs.2 p.1 ?_).trans e,n,ne,nf,d⟩;intro q;rw[q,TJ]at e;have q':oc=p.2:=IR e;exact d w' (by rw[<-q'];exact X5)
def oG{M:Model}{A:xX!}{E:n_}{i:Nat}{x:Str}{v:V}{u:ys!}{Q:cS_}(I:c!)(hN:aW_)(hi:ad_)(hx:bb!)(r:bo_)
  (h:∀s',Inv X O ex_ H s'->Q () s')(hf:X.fn x=true\/X.env.scope.names.lookup x=some .local:=by first|exact .inl rfl|exact .inr rfl|assumption):wpAny M A q8_ Q E s:=
 yN I hN hi hx r (λs' I' _=>h s' I') hf
def Inv.call'{s':z2!}{ch:J!}(I:c!)(ho:s'.os=s.os)(u:Un h4! ch H H' s.heap s'.heap)(hok:Lm X.prog X.w H' s'.heap)(hg:AllBare s'.gens)
  (iu:∀b∈ch,hZ_/\b≠X.env.locals/\h0!/\∀p∈X.pn++O,p.1≠b):Inv X O Z H' s':=by
 obtain⟨h',g',d',t',o'⟩:=s';have e:o'=s.os:=ho;subst e;exact I.call (g':=g') (t':=t') (d':=d') u hok hg iu
end
abbrev XK:=Value->Option Addr->Hp->Prop
abbrev St:=List (Option V)
abbrev VK:=V->Hp->Prop
abbrev TE:=St->Hp->VK->Prop
abbrev TT:=St->Hp->rg!->Prop
abbrev TA:=St->Hp->(List V->Hp->Prop)->Prop
structure Sj where
 nx:St->Hp->Prop
 rt:VK
 bk:St->Hp->Prop:=λ_ _=>False
 ct:St->Hp->Prop:=λ_ _=>False
abbrev TS:=Sj->St->Hp->Prop
inductive EP(X:Cx)(O:j!)(Z:St)(Q:VK)(u:ys!)(s':z2!):Prop
 |mk (v:V) (H':Hp) (I:lW_) (r:bo_) (q:Q v H'):EP X O Z Q u s'
inductive TP(X:Cx)(O:j!)(Z:St)(Q:dB!)(b:Bool)(s':z2!):Prop
 |mk (H':Hp) (I:lW_) (q:Q b H'):TP X O Z Q b s'
inductive AP(X:Cx)(O:j!)(Z:St)(Q:cT_)(us:g_)(s':z2!):Prop
 |mk (vs:k!) (H':Hp) (I:lW_) (r:ey_) (q:Q vs H'):AP X O Z Q us s'
def SP(X:Cx)(O:j!)(D:Sj)(f:Flow)(s':z2!):Prop:=
 match f with
 |.next=>∃h2 H',Inv X O h2 H' s'/\D.nx h2 H'
 |.brk=>∃h2 H',Inv X O h2 H' s'/\D.bk h2 H'
 |.cont=>∃h2 H',Inv X O h2 H' s'/\D.ct h2 H'
 |.ret u=>∃v h2 H',Inv X O h2 H' s'/\Bp v u/\D.rt v H'
def PE(X:Cx)(e:Expr)(t:TE):Prop:=
 ∀(O:j!) (s:z2!) (Z:St) (H:Hp) (Q:VK),Inv X O Z H s->t Z H Q->wpAny e! X.A ez! aG! X.xe s
def PT(X:Cx)(e:Expr)(t:TT):Prop:=
 ∀(O:j!) (s:z2!) (Z:St) (H:Hp) (Q:dB!),Inv X O Z H s->t Z H Q->wpAny e! X.A (isTrue e X.env ez!) ib! X.xe s
def PW(X:Cx)(e:Expr)(t:TT):Prop:=
 ∀(dt:Sem Value) (O:j!) (s:z2!) (Z:St) (H:Hp) (Q:dB!),Inv X O Z H s->t Z H Q->wpAny e! X.A (isTrue e X.env dt) ib! X.xe s
def PW.pt{X:Cx}{e:Expr}{t:TT}(h:PW X e t):PT X e t:=h _
def PA(X:Cx)(es:bK!)(t:TA):Prop:=
 ∀(pos:Pos) (O:j!) (s:z2!) (Z:St) (H:Hp) (Q:cT_),Inv X O Z H s->t Z H Q->wpAny e! X.A (spliced ri!) (AP X O Z Q) X.xe s
def PS(X:Cx)(st:Stmt)(t:TS):Prop:=
 ∀(O:j!) (s:z2!) (Z:St) (H:Hp) (D:Sj),Inv X O Z H s->t D Z H->wpAny e! X.A (exec st X.env) lX_ X.xe s
def Ov(X:Cx)(st:bp!)(t:TS):Prop:=
 ∀(O:j!) (s:z2!) (Z:St) (H:Hp) (D:Sj),Inv X O Z H s->t D Z H->wpAny e! X.A (execs st X.env) lX_ X.xe s
def dA{α:Type}{t:Sem α}{Q Q':rj_}{M:Model}{A:xX!}{E:n_}{s:z2!}(h:wpAny M A t Q E s)(hQ:∀a s,Q a s->Q' a s):wpAny M A t Q' E s:=JH h hQ λ_ _ x=>x
end L2
namespace L2
open PySem PySem.Spec PyProof.Rows
section
variable{X:Cx}
def bin{a b:Expr}{ta tb:TE}(ha:aX!)(Y:cp!){O:j!}{s:z2!}{Z:St}{H:Hp}{R:rk_}(I:c!)(h:rk!)
  {α:Type}{Q:rj_}{f:Value->Value->Sem α}
  (hf:rl!):
  wpAny e! X.A lY! rm_ X.xe s:=by
 show"!:"
def DF(i:Nat):TE:=λZ H Q=>∃v,Z[i]?=some ba_/\Q v H
nonrec def tC(v:V):TE:=λ_ H Q=>Q v H
def kB{i:Nat}{x:Str}{pos:Pos}(hN:ad_)(hv:cp_)(hd:B_:=by decide)(bv:cq!:=by decide):PE X cU! (DF i):=by
 intro O s Z H Q I h;obtain⟨v,e,h⟩:=h;obtain⟨m,hn,hl⟩:=I.loc;obtain⟨u,r,l⟩:=hl i x v hN e hv;have fin:EP X O Z Q u s:=lZ!;obtain⟨hk,hm⟩|⟨hk,c,hc,ce⟩:=l
 .exact wpAny_Name (wpAny_loadName_local I.ok.kind hk hn hm fin) hd
 .obtain hk|hk:=hk
  .exact wpAny_Name (wpAny_loadName_cell I.ok.kind hk hc ce fin) hd
  .exact wpAny_Name (wpAny_loadName_free I.ok.kind hk hc ce fin bv) hd
def c6r {i j pos}:PE X ro_ (tC bp_):=λ_ _ _ H _ I h=>wpAny_Constant_int ⟨cq_,H,aX_,I!,h⟩
def d0l {b j pos}:PE X (.Constant lZ_ j pos) (tC bK_):=λ_ _ _ H _ I h=>Constant_bool ⟨.bl b,H,I,rfl,h⟩
def c6q {j pos}:PE X rp! (tC .non):=λ_ _ _ H _ I h=>Constant_none ⟨.non,H,I,rfl,h⟩
def c6p {x j pos}:PE X (.Constant cU_ j pos) (tC cU_):=λ_ _ _ H _ I h=>Calls.Constant_str ⟨.str x,H,aX_,I!,h⟩
def Gl(X:Cx)(x:Str):Prop:=X.env.kindOf x=some .globalImplicit
def gZ{E:n_}{O:j!}{s:z2!}{Z:St}{H:Hp}{x:Str}{u:ys!}{pos:Pos}{Q:n_}(I:c!)(hg:M_)(hm:X.mg x=some u)(h:Q u s)
  (hd:B_:=by decide):wpAny e! X.A rq! Q E s:=
 Calls.Name_function_global I.ok.kind hg (Calls.loadGlobal_global rq_ hm h) hd
def kJ{E:n_}{O:j!}{s:z2!}{Z:St}{H:Hp}{x:Str}{u:ys!}{pos:Pos}{Q:n_}(I:c!)(hg:M_)(hm:cV!)(hv:rr!)(h:Q u s)
  (hn:cV_:=by decide)(hd:B_:=by decide):wpAny e! X.A rq! Q E s:=by
 obtain⟨mb,B,J⟩:=I.mod.blt;exact Calls.Name_function_global I.ok.kind hg (Calls.loadGlobal_builtin rq_ hm (by rw[I.ok.blt];exact B.keeps I.bk) ((J x hn).trans hv) h) hd
def b1k{x:Str}{v:V}{u:ys!}{pos:Pos}(hg:M_)(hm:X.mg x=some u)(r:bo_)(hd:B_:=by decide):PE X cU! (tC v):=
 λ_ _ _ H _ I h=>gZ I hg hm lZ! hd
def c2m{x:Str}{v:V}{u:ys!}{pos:Pos}(hg:M_)(hm:cV!)(hv:rr!)(r:bo_)(hn:cV_:=by decide)(hd:B_:=by decide):PE X cU! (tC v):=
 λ_ _ _ H _ I h=>kJ I hg hm hv lZ! hn hd
variable{a b:Expr}{ta tb:TE}{pos:Pos}
def PC(X:Cx)(op:CmpOp)(a b:Expr)(t:TE):Prop:=
 ∀(O:j!) (s:z2!) (Z:St) (H:Hp) (Q:VK),Inv X O Z H s->t Z H Q->
  wpAny e! X.A lY! (λv ak=>wpAny e! X.A vq_ (λu am=>wpAny e! X.A (compareOp op v u) aG! X.xe am) X.xe ak) X.xe s
def b8b(b:Expr){op:CmpOp}(h:op≠.In)(J:op≠.NotIn):behindInMarks op b=false:=by
 have e1:rs!=false:=by cases op<;>first|rfl|exact absurd rfl h
 have e2:rs_=false:=by cases op<;>first|rfl|exact absurd rfl J
 cases b<;>simp[behindInMarks,e1,e2]
nonrec def tB(t:TE):TT:=λZ H Q=>t Z H λx H1=>∃c,x=.bl c/\Q c H1
def d2d{op:CmpOp}{t:TE}(h:PC X op a b t)(B:dB_:=by first|exact b8b _ d! d!|rfl):PT X dC! (tB t):=by intro O s Z H Q I hw;refine QD (dA l1_ λv s1 B=>dA B λu s2 J=>dA J λc s3 ⟨x,H1,I1,r1,q1⟩=>?_) B;obtain⟨d,rfl,q⟩:=q1;cases r1;exact IS ⟨H1,I1,q⟩
def b6o{e:Expr}{t:TE}(h:id!)(he:id_:=by intro _;rfl):PT X e (tB t):=by intro O s Z H Q I hw;refine isTrue_plain (dA l1_ λv s1 ⟨x,H1,I1,r1,q1⟩=>?_) (he _);obtain⟨d,rfl,q⟩:=q1;cases r1;exact IS ⟨H1,I1,q⟩
variable{tA v7:TT}{rest:List Expr}
def DX(t u:TT):TT:=λZ H Q=>t Z H λc H1=>if c=true then u Z H1 Q else Q false H1
def FW(t u:TT):TT:=λZ H Q=>t Z H λc H1=>if c=true then Q true H1 else u Z H1 Q
def DN(t:TT):TT:=λZ H Q=>t Z H λc H1=>Q (!c) H1
def b1a(ha:fW!):PW X l3! tA:=by
 intro wh O s Z H Q I h;refine isTrue_and ru_;cases c with
 |true=>exact isTrue_and_nil e
 |false=>exact e
def b6i(ha:fW!):PW X l3_ tA:=by
 intro wh O s Z H Q I h;refine isTrue_or ru_;cases c with
 |false=>exact isTrue_or_nil e
 |true=>exact e
def b6j(ha:fW!)(Y:PW X eA! v7):PW X eA_ (DX tA v7):=by
 intro wh O s Z H Q I h;refine isTrue_and rv_;cases c with
 |true=>exact Y wh O s1 Z H1 Q I1 q1
 |false=>exact rw!
def c5e(ha:fW!)(Y:PW X eB! v7):PW X eB_ (FW tA v7):=by
 intro wh O s Z H Q I h;refine isTrue_or rv_;cases c with
 |true=>exact rw!
 |false=>exact Y wh O s1 Z H1 Q I1 q1
def b6q(ha:fW!):PT X eC! (DN tA):=by intro O s Z H Q I h;exact isTrue_not (dA (ha O s Z H (λc H1=>Q (!c) H1) I h) λ_ _ ⟨H2,I2,q⟩=>⟨H2,I2,q⟩)
def AQ(ta tb:TE):TE:=λZ H Q=>ta Z H λx H1=>∃c,x=.bl c/\if c=true then tb Z H1 Q else Q ah_ H1
def DM(ta tb:TE):TE:=λZ H Q=>ta Z H λx H1=>∃c,x=.bl c/\if c=true then Q A! H1 else tb Z H1 Q
def AK(ta:TE):TE:=λZ H Q=>ta Z H λx H1=>∃c,x=.bl c/\Q (.bl (!c)) H1
def b7i {op}{t:TE}(h:PE X a t):PE X l6! t:=λO s Z H Q I hw=>BoolOp_one ry!
def b7o(ha:aX!)(Y:PE X eA! tb):PE X eA_ (AQ ta tb):=by
 intro O s Z H Q I h;refine BoolOp_and l7!;obtain⟨c,rfl,q1⟩:=q1;cases r1;refine IS ?_;cases c with
 |true=>exact Y O s1 Z H1 Q I1 q1
 |false=>exact⟨l8_,H1,I1,rfl,q1⟩
def c5g(ha:aX!)(Y:PE X eB! tb):PE X eB_ (DM ta tb):=by
 intro O s Z H Q I h;refine BoolOp_or l7!;obtain⟨c,rfl,q1⟩:=q1;cases r1;refine IS ?_;cases c with
 |false=>exact Y O s1 Z H1 Q I1 q1
 |true=>exact⟨eC_,H1,I1,rfl,q1⟩
def b7j(ha:aX!):PE X eC! (AK ta):=by intro O s Z H Q I h;refine UnaryOp_ l7!;obtain⟨c,rfl,q1⟩:=q1;cases r1;exact not_of (IS ⟨.bl (!c),H1,I1,rfl,q1⟩)
def FX(t:TT)(ta tb:TE):TE:=λZ H Q=>t Z H λc H1=>if c=true then ta Z H1 Q else tb Z H1 Q
def a5j{c:Expr}(hc:PT X c tA)(ha:aX!)(Y:cp!):PE X l9! (FX tA ta tb):=by
 intro O s Z H Q I h;refine wpAny_IfExp rA_;cases d with
 |true=>exact ha O s1 Z H1 Q I1 q1
 |false=>exact Y O s1 Z H1 Q I1 q1
end
end L2
namespace L2
open PySem PySem.Spec PyProof.Rows
def Ff(K:z1!)(H:Hp)(a:xK!)(xs:k!):Prop:=
 Rd H a N!\/
  ∃(o:Obj) (its:aa_) (n:Nat),K.lookup a=some o/\o.cls=.type "list"/\o.dict=none/\o.data=.seq its n/\its.size<=sizeLine/\Ba xs if_
def Gd(K:z1!)(H:Hp)(a:xK!)(xs:k!):Prop:=
 Rd H a bJ!\/
  ∃(o:Obj) (its:aa_) (n:Nat),K.lookup a=some o/\o.cls=.type "tuple"/\o.data=.seq its n/\its.size<=sizeLine/\Ba xs if_
def EL:Value->Option V
 |.none=>some .non
 |.bool b=>some bK_
 |.int i _=>some bp_
 |.str x _=>some cU_
 |.bytes b _=>some (.byt b)
 |.float b _=>some (.flt b)
 |.ref a=>some S_
 |.type n=>some (.ty n)
 |_=>none
def Bp.abs{x:V}{u:ys!}(r:Bp x u):EL u=some x:=by
 cases x with
 |non=>cases r;rfl
 |bl _=>cases r;rfl
 |int _=>obtain⟨t,rfl⟩:=r;rfl
 |str _=>obtain⟨t,rfl⟩:=r;rfl
 |byt _=>obtain⟨t,rfl⟩:=r;rfl
 |flt _=>obtain⟨t,rfl⟩:=r;rfl
 |ref _=>cases r;rfl
 |ty _=>cases r;rfl
def Bp.inj{x y:V}{u:ys!}(r:Bp x u)(q:Bp y u):x=y:=IR (r.abs.symm.trans q.abs)
def Ba.inj:∀{xs ys:k!} {us:g_},Ba xs us->Ba ys us->xs=ys
 |_,_,_,.nil,.nil=>rfl
 |_,_,_,.cons r t,.cons r' t'=>by rw[r.inj r',Ba.inj t t']
section
variable{X:Cx}{O:List (Addr×Obj)}{Z:St}{H:Hp}{s:z2!}{a:xK!}{xs ys:List V}
def Ff.of{K:z1!}(h:H a=some N!):Ff K H a xs:=.inl ig_
def Gd.of{K:z1!}(h:H a=some bJ!):Gd K H a xs:=.inl ig_
def Inv.list(I:c!)(h:Ff X.K H a xs):∃its:List Value,Ba xs its/\PlainL s.heap a aO!/\i!<=sizeLine:=by
 obtain h|⟨o,its,n,hk,hc,hd,hs,hz,r⟩:=h
 .obtain⟨z,its,n,r,e⟩:=h.ok I.hok;exact⟨its,r,⟨_,n,e,rfl,rfl,rfl⟩,z⟩
 .refine⟨if_,r,⟨o,n,I.kIn a o hk,hc,hd,rB_⟩,?_⟩;have e:=az_;simp only[JB]at e;omega
def Inv.tuple(I:c!)(h:Gd X.K H a xs):∃its:List Value,Ba xs its/\IsTup s.heap a aO!/\i!<=sizeLine:=by
 obtain h|⟨o,its,n,hk,hc,hs,hz,r⟩:=h
 .obtain⟨z,its,r,p⟩:=h.ok I.hok;exact⟨its,r,p,z⟩
 .refine⟨if_,r,⟨o,I.kIn a o hk,hc,n,rB_⟩,?_⟩;have e:=az_;simp only[JB]at e;omega
def Inv.list_inj(I:c!)(h:Ff X.K H a xs)(h':Ff X.K H a ys):xs=ys:=by
 obtain⟨its,r,⟨o,n,e,_,_,d⟩,_⟩:=I.list h;obtain⟨its',r',⟨o',n',e',_,_,d'⟩,_⟩:=I.list h';rw[e]at e';cases e';rw[d]at d';injection d' with d1 _
 have:its=its':=by simpa using congrArg Array.toList d1
 subst this;exact r.inj r'
def Inv.tuple_inj(I:c!)(h:Gd X.K H a xs)(h':Gd X.K H a ys):xs=ys:=by
 obtain⟨its,r,⟨o,e,_,n,d⟩,_⟩:=I.tuple h;obtain⟨its',r',⟨o',e',_,n',d'⟩,_⟩:=I.tuple h';rw[e]at e';cases e';rw[d]at d';injection d' with d1 _
 have:its=its':=by simpa using congrArg Array.toList d1
 subst this;exact r.inj r'
end
abbrev Cx.wish(X:Cx)(E:n_):Cx:={X with xe:=E}
abbrev Cx.nox(X:Cx):Cx:=X.wish λ_ _=>False
def Cx.Ok.wish{X:Cx}(ok:X.Ok)(E:n_):(fX_).Ok:=
 ih_
def Cx.Ok.unwish{X:Cx}{E:n_}(ok:(fX_).Ok):X.Ok:=
 ih_
section
variable{X:Cx}{O:List (Addr×Obj)}{Z:St}{H:Hp}{s:z2!}{E:Value->Shared->Prop}
def Inv.wish(I:c!)(E:n_):Inv fX_ O Z H s:=⟨I.ok.wish E,I.os,I.bare,I.base,I.loc,I.cell,I.free,I.freeC,I.pin,I.hok,I.len⟩
def Inv.unwish(I:Inv fX_ O Z H s):Inv X O Z H s:=⟨I.ok.unwish,I.os,I.bare,I.base,I.loc,I.cell,I.free,I.freeC,I.pin,I.hok,I.len⟩
def SP.unwish{D:Sj}{f:Flow}{s':z2!}(h:SP fX_ O D f s'):SP X O D f s':=by
 cases f with
 |next=>obtain⟨h2,H',I,q⟩:=h;exact mb!
 |brk=>obtain⟨h2,H',I,q⟩:=h;exact mb!
 |cont=>obtain⟨h2,H',I,q⟩:=h;exact mb!
 |ret u=>obtain⟨v,h2,H',I,r,q⟩:=h;exact⟨v,h2,H',I.unwish,r,q⟩
def Ov.nox{st:bp!}{t:TS}(h:Ov X.nox st t):Ov X st t:=λO s Z H D I hw=>
 JH (h O s Z H D (I.wish _) hw) (λ_ _ q=>q.unwish) λ_ _ z=>False.elim z
end
section
variable{X:Cx}{st:Stmt}{rest:List Stmt}{t u:TS}{e:Expr}{te:TE}{pos:Pos}
def AL:TS:=λD Z H=>D.nx Z H
def DJ(t u:TS):TS:=λD Z H=>t {D with nx:=u D} Z H
def b1c:Ov X [] AL:=λ_ _ Z H _ I h=>OJ ⟨Z,H,I,h⟩
def uX(B:ii_)(J:Ov X rest u):Ov X ij! (DJ t u):=by
 intro O s Z H D I h;refine wpAny_execs_cons (dA (B O s Z H {D with nx:=u D} I h) λf s1 q=>?_);cases f with
 |next=>
  obtain⟨h2,H',I',q⟩:=q;exact J O s1 h2 H' D I' q
 |ret v=>exact q
 |brk=>exact q
 |cont=>exact q
def oN(B:ii_):Ov X [st] t:=by
 intro O s Z H D I h;refine wpAny_execs_cons (dA (B O s Z H D I h) λf s1 q=>?_);cases f with
 |next=>exact OJ q
 |ret v=>exact q
 |brk=>exact q
 |cont=>exact q
def Inv.quiet{O:j!}{Z:St}{H:Hp}{s:z2!}(I:c!):interactive X.env=false:=by simp[interactive,I.ok.kind]
def AM(te:TE):TS:=λD Z H=>te Z H λ_ H1=>D.nx Z H1
def oO(he:cr!)(hs:mc!:=by rfl):PS X mc_ (AM te):=by intro O s Z H D I h;exact wpAny_Expr_any (dA cr_ λv s1 ⟨x,H1,I1,r1,q1⟩=>⟨Z,H1,I1,q1⟩) I.quiet hs
def DK(te:TE):TS:=λD Z H=>te Z H D.rt
def b6t(he:cr!):PS X md! (DK te):=by intro O s Z H D I h;exact wpAny_Return_some (dA cr_ λv s1 ⟨x,H1,I1,r1,q1⟩=>⟨x,Z,H1,I1,r1,q1⟩)
def AI:TS:=λD _ H=>D.rt .non H
def c2d:PS X rF! AI:=λ_ _ Z H _ I h=>wpAny_Return_none ⟨.non,Z,H,I,rfl,h⟩
def DP(c:TT)(t u:TS):TS:=λD Z H=>c Z H λb H1=>if b=true then t D Z H1 else u D Z H1
def b6v{c:Expr}{a b:bp!}{tc:TT}(hc:PT X c tc)(ha:Ov X a t)(Y:Ov X b u):PS X (.If c a b pos) (DP tc t u):=by
 intro O s Z H D I h;refine wpAny_If rA_;cases d with
 |true=>exact ha O s1 Z H1 D I1 q1
 |false=>exact Y O s1 Z H1 D I1 q1
end
abbrev TG:=V->St->Hp->rH!->Prop
abbrev Zp:=List V->St->Hp->rH!->Prop
def PG(X:Cx)(v8:Expr)(t:TG):Prop:=
 ∀(O:j!) (s:z2!) (Z:St) (H:Hp) (v:V) (u:ys!) (Q:ik!),Inv X O Z H s->Bp v u->t v Z H Q->
  wpAny e! X.A (assign v8 X.env u) rG_ X.xe s
def CT(X:Cx)(ts:bK!)(t:Zp):Prop:=
 ∀(O:j!) (s:z2!) (Z:St) (H:Hp) (vs:k!) (us:g_) (Q:ik!),Inv X O Z H s->Ba vs us->t vs Z H Q->
  wpAny e! X.A (assignInOrder ((assignEach ts X.env).map s_) us) rG_ X.xe s
abbrev Xu:=V->V->V->Hp->mf!->Prop
def Vj(X:Cx)(t:Xu):Prop:=
 ∀(O:j!) (s:z2!) (Z:St) (H:Hp) (o i v:V) (ov iv u:ys!) (Q:Hp->Prop),Inv X O Z H s->Bp o ov->Bp i iv->Bp v u->t o i v H Q->
  wpAny e! X.A (setItem ov iv u) (λ_ s'=>∃H',Inv X O Z H' s'/\Q H') X.xe s
abbrev CP:=V->V->Hp->VK->Prop
def FM(X:Cx)(op:Operator)(t:CP):Prop:=
 ∀(O:j!) (s:z2!) (Z:St) (H:Hp) (x y:V) (v u:ys!) (Q:VK),Inv X O Z H s->Bp x v->Bp y u->t x y H Q->
  wpAny e! X.A (inplaceOp op v u) aG! X.xe s
section
variable{X:Cx}{pos:Pos}
def Np(i:Nat):TG:=λv Z H Q=>Q ex_ H
def bF{i:Nat}{x:Str}(hN:aW_)(hi:ad_)(hx:bb!)(hf:X.fn x=true\/X.env.scope.names.lookup x=some .local:=by first|exact .inl rfl|exact .inr rfl|assumption):PG X cU! eD!:=by intro O s Z H v u Q I r h;exact wpAny_assign_Name (oG I hN hi hx r (λs' I'=>⟨_,H,I',h⟩) hf)
def Zm:Zp:=λvs Z H Q=>vs=[]/\Q Z H
def Tl(t:TG)(u:Zp):Zp:=λvs Z H Q=>∃v r,vs=v::r/\t v Z H λh2 H'=>u r h2 H' Q
def b1i:CT X [] Zm:=by intro O s Z H vs us Q I r h;obtain⟨e,h⟩:=h;subst e;cases r;exact assignInOrder_nil ⟨Z,H,I,h⟩
def oP{e:Expr}{es:bK!}{t:TG}{u:Zp}(B:PG X e t)(J:CT X es u)
  (hs:(assignEach aG_ X.env).map s_=assign e X.env::(mf_).map s_:=by rfl):CT X aG_ (Tl t u):=by
 intro O s Z H vs us Q I r h;obtain⟨v,vr,e1,h⟩:=h;subst e1;cases r with
 |cons r rr=>
  rw[hs];refine assignInOrder_cons (dA (B O s Z H _ _ _ I r h) λ_ s1 ⟨bx,H1,I1,q1⟩=>?_);exact J O s1 bx H1 _ _ Q I1 rr q1
def Zl(K:z1!)(n:Nat)(t:Zp):TG:=λv Z H Q=>∃a xs,v=.ref a/\Gd K H a xs/\i!=n/\t xs Z H Q
def b7a{es:bK!}{k:Nat}{t:Zp}{n:Nat}(hc:bb_)(h:CT X es t)
  (hn:(mf_).length=n:=by rfl)(hst:(mf_).findIdx? b_=none:=by rfl):PG X (.Tuple es k pos) (Zl X.K n t):=by
 intro O s Z H v u Q I r hw;obtain⟨a,xs,e1,hq,hl,hw⟩:=hw;subst e1;cases r;obtain⟨its,rv,ht,hz⟩:=I.tuple hq;refine assign_Tuple_tuple bq! ht (by simp[hn,<-hl,rv.length]) hst λh' hx=>?_;have I1:Inv X O Z H {s with heap:=h'}:=I.kept (t':=s.toks) λb o e=>hx b o (II cR_) e;exact h O _ Z H xs _ Q I1 (by simpa using rv) hw
def EJ(to ti:TE)(t:Xu):TG:=λv Z H Q=>to Z H λo H1=>ti Z H1 λi H2=>t o i v H2 λH3=>Q Z H3
def b7b{o:Expr}{to ti:TE}{t:Xu}(ho:mg!)(hi:PE X i ti)(hs:Vj X t)
  (ha:∀v,assign rJ! X.env v=(do
   let ov <-holding [v] cW!
   let iv <-holding [v,ov] rK_
   standAt pos
   holding eD_ mh!
   release eD_ []):=by intro _;rfl):PG X rJ! (EJ to ti t):=by
 intro O s Z H v u Q I r h;rw[ha];refine GM (IT (dA rK! λov s1 ⟨x,H1,I1,r1,q1⟩=>?_));refine GM (IT (dA (hi O s1 Z H1 _ I1 q1) λiv s2 ⟨y,H2,I2,r2,q2⟩=>?_));refine GM (PQ (GM (IT (dA (hs O s2 Z H2 x y v ov iv u _ I2 r1 r2 r q2) λ_ s3 ⟨H3,I3,q3⟩=>?_))));exact wpAny_release ⟨Z,H3,I3,q3⟩
def Za(te:TE)(g:TG):TS:=λD Z H=>te Z H λx H1=>g x Z H1 D.nx
def b6x{tg e:Expr}{te:TE}{g:TG}(he:cr!)(hg:mi!)(hs:swapsWithSole [tg] e pos.line X.env=pure false:=by rfl)(hw:swappedStores [tg] e X.env=pure none:=by rfl)
  (B:(assignEach [tg] X.env).map s_=[assign tg X.env]:=by rfl):PS X (.Assign [tg] e pos) (Za te g):=by
 intro O s Z H D I h;refine wpAny_Assign_stores rN! hs hw;rw[B];exact dA (hg O s1 Z H1 x v _ I1 r1 q1) λ_ s2 q=>q
def uY{i:Nat}{x:Str}{e:Expr}{te:TE}{pos':Pos}(hN:aW_)(hi:ad_)(hx:bb!)(he:cr!)(hs:swapsWith e (some im!) pos.line X.env=pure false:=by rfl)(hf:X.fn x=true\/X.env.scope.names.lookup x=some .local:=by first|exact .inl rfl|exact .inr rfl|assumption):
  PS X (.Assign rN_ e pos) (Za te eD!):=by
 intro O s Z H D I h;refine wpAny_Assign_Name (dA cr_ λv s1 ⟨y,H1,I1,r1,q1⟩=>?_) hs;exact oG I1 hN hi hx r1 (λs2 I2=>⟨_,H1,I2,q1⟩) hf
def DV(i:Nat)(te:TE)(ti:CP):TS:=λD Z H=>∃x,Z[i]?=some dC_/\te Z H λy H1=>ti x y H1 λz H2=>D.nx (Z.set i (some z)) H2
def c6l{i:Nat}{x:Str}{e:Expr}{te:TE}{op:Operator}{ti:CP}{pos':Pos}(hN:aW_)(hi:ad_)(hx:bb!)(he:cr!)(ho:FM X op ti)(hf:X.fn x=true\/X.env.scope.names.lookup x=some .local:=by first|exact .inl rfl|exact .inr rfl|assumption):
  PS X (.AugAssign im! op e pos) (DV i te ti):=by
 intro O s Z H D I h;obtain⟨v,e1,h⟩:=h;obtain⟨m,hn,hl⟩:=I.loc;have X6:Vi X.env.scope x:=by obtain k|k:=hx;exact .inl k;exact .inr (.inl k)
 obtain⟨u,r,l⟩:=hl i x v hi e1 X6;refine wpAny_AugAssign_Name ?_;have go:wpAny e! X.A ez! (λw am=>wpAny e! X.A (inplaceOp op u w) (λr c9=>wpAny e! X.A (storeName X.env x r) (λ_=>SP X O D .next) X.xe c9) X.xe am) X.xe s:=by
  refine dA cr_ λw s1 ⟨y,H1,I1,r1,q1⟩=>?_;refine dA (ho O s1 Z H1 v y u w _ I1 r r1 q1) λz s2 ⟨zv,H2,I2,r2,q2⟩=>?_;exact oG I2 hN hi hx r2 (λs3 I3=>⟨_,H2,I3,q2⟩) hf
 obtain⟨hk,hm⟩|⟨hk,c,hc,ce⟩:=l
 .exact wpAny_loadName_local I.ok.kind hk hn hm go
 .obtain hk|hk:=hk
  .exact wpAny_loadName_cell I.ok.kind hk hc ce go
  .obtain k|k:=hx
   .show"!j"
   .show"!j"
def FZ(f:mi_):CP:=λx y H Q=>∃i j,x=.int i/\y=.int j/\Q (.int (f i j)) H
def c8f:FM X .Add (FZ λi j=>i+j):=by intro O s Z H x y v u Q I r1 r2 h;obtain⟨i,j,e1,e2,q⟩:=h;subst e1;subst e2;obtain⟨t,rfl⟩:=r1;obtain⟨t',rfl⟩:=r2;exact iadd_int io!
def Yy(c:TT)(tb:TS):TS:=λD Z H=>∃W:Nat->St->Hp->Prop,(∃m,W m Z H)/\∀m Z H,W m Z H->
 c Z H λb H1=>if b=true then∃N:St->Hp->Prop,(∀h2 H',N h2 H'->∃m',m'<m/\W m' h2 H')/\tb {D with nx:=N,ct:=N,bk:=D.nx} Z H1 else D.nx Z H1
def b6s{c:Expr}{body:bp!}{tc:TT}{tb:TS}(hp:fZ!)(hc:PT X c tc)(Y:Ov X body tb):PS X rO! (Yy tc tb):=by
 intro O s Z H D I h;obtain⟨W,⟨m0,w0⟩,turn⟩:=h;refine wpAny_While (codeAny_whileLoop (λn s'=>∃h2 H',Inv X O h2 H' s'/\W n h2 H') ?_ m0 ⟨Z,H,I,w0⟩);rintro n s1 ⟨bx,H1,I1,w1⟩;refine MV hp (dA (hc O s1 bx H1 _ I1 (turn n bx H1 w1)) λb s2 ⟨H2,I2,q2⟩=>?_);cases b with
 |true=>
  obtain⟨N,hN,q2⟩:=q2;rw[m_];refine MV hp (dA (Y O s2 bx H2 _ I2 q2) λf s3 q3=>?_);cases f with
  |next=>
   show"!c"
  |cont=>
   show"!c"
  |brk=>exact q3
  |ret v=>exact q3
 |false=>
  rw[GS HM];exact OJ ⟨bx,H2,I2,q2⟩
end
structure It where
 go:Nat->Hp->Prop
 yld:Nat->Hp->V->Hp->Prop
 stop:Nat->Hp->Prop
def Ii(X:Cx)(O:j!)(H:Hp)(b:xK!):Prop:=
 H b=none/\b≠X.env.locals/\b∉X.fs/\hZ_/\h0!/\∀p∈X.pn++O,p.1≠b
def Inv.fpOk{X:Cx}{O:j!}{Z:St}{H H':Hp}{s:z2!}{b:xK!}(I:c!)(Y:k_<=b)(hn:H' b=none):Ii X O H' b:=by
 refine⟨hn,NB (HP I.lt Y),I.nofs Y,.inr (IE I.sz Y),λx c e z=>?_,λp hp z=>?_⟩
 .obtain⟨v,q⟩:=I.cell x c e;exact absurd (HP q.lt rP_) dz!
 .exact absurd (HP (HR (mk!).1) rP_) dz!
structure Qy(P:z3!)(w:yt!)(K:z1!)(tg:Expr)(ac:It)(fp:J!)(it:xK!)(tn:dD!):Prop where
 mem:it∈fp
 obj:∀i h,tn i h->∀b∈fp,∃o,h.get? b=some o/\∀v,o.data≠.cell v
 keep:∀i h h',tn i h->(∀b∈fp,∀o,h.get? b=some o->h'.get? b=some o)->tn i h'
 item:∀(X:Cx),X.prog=P->X.w=w->X.K=K->X.calm=true->∀(i:Nat) (O:j!) (s:z2!) (Z:St) (H:Hp) (E:n_),Inv X O Z H s->rQ_->tn i s.heap->ac.go i H->
  wpAny J_ X.A iq! (λr s1=>∃u,r=some u/\
   wpAny J_ X.A rR! (λ_ s2=>∃x H',Inv X O Z H' s2/\Bp x u/\ac.yld i H x H'/\tn aY_ s2.heap/\∀b∈fp,H' b=none) E s1) E s
 done:∀(X:Cx),X.prog=P->X.w=w->X.K=K->X.calm=true->∀(i:Nat) (O:j!) (s:z2!) (Z:St) (H:Hp) (E:n_),Inv X O Z H s->rQ_->tn i s.heap->ac.stop i H->
  wpAny J_ X.A iq! (λr s1=>r=none/\Inv X O Z H s1) E s
 self:∀(A:xX!) (i:Nat) (s:z2!) (Q:n_) (E:n_),tn i s.heap->Q b2_ s->wpAny J_ A (pyIter b2_) Q E s
abbrev TI:=St->Hp->(It->Hp->Prop)->Prop
def CS(X:Cx)(O:j!)(Z:St)(tg:Expr)(R:fZ_)(v9:ys!)(s2:z2!):Prop:=
 ∃(it:xK!) (fp:J!) (tn:dD!) (ac:It) (H':Hp),v9=.ref it/\Inv X O Z H' s2/\Qy X.prog X.w X.K tg ac fp it tn/\tn 0 s2.heap/\(∀b∈fp,Ii X O H' b)/\R ac H'
def PI(X:Cx)(tg iter:Expr)(wi:TI):Prop:=
 ∀(O:j!) (s:z2!) (Z:St) (H:Hp) (R:fZ_),Inv X O Z H s->wi Z H R->
  wpAny e! X.A (eval iter X.env) (λv s1=>wpAny e! X.A (pyIter v) rR_ X.xe s1) X.xe s
def b2g{M:Model}{A:xX!}{E:n_}{s:z2!}{tg:Expr}{u:ys!}{o:Obj}{n:String}{vs:aa_}{Q:cS_}(ho:s.heap.get? it=some o)(hc:o.cls=.type n)(hd:o.data=.fields vs)
  (hn:(rS_).contains n=false)(hQ:Q () s):wpAny M A rR! Q E s:=by
 unfold letOwnedTupleGo;cases tg<;>first
  |exact GO hQ
  |(cases u<;>first
    |exact GO hQ
    |(refine GM (wpAny_load ho ?_);rw[hc,hd];show wpAny M A (if((rS_).contains n&&vs[0]?==some (rawInt _))=true then _ else _) Q E s;rw[GS (by intro h;rw[hn,Bool.false_and]at h;cases h)];exact GO hQ))
def ES(K:z1!)(a:xK!):It:=
 ⟨λi H=>∃xs x,Ff K H a xs/\xs[i]?=some x,λi H x H'=>H'=H/\∀xs,Ff K H a xs->xs[i]?=some x,λi H=>∃xs,Ff K H a xs/\i!<=i⟩
def GK(K:z1!)(a:xK!):It:=
 ⟨λi H=>∃xs x,Gd K H a xs/\xs[i]?=some x,λi H x H'=>H'=H/\∀xs,Gd K H a xs->xs[i]?=some x,λi H=>∃xs,Gd K H a xs/\i!<=i⟩
def BV(lo:Int)(n:Nat):It:=⟨λi _=>i<n,λi H x H'=>H'=H/\x=.int (lo+i),λi _=>n<=i⟩
def b3a{P:z3!}{w:yt!}{K:z1!}{tg:Expr}(a it:xK!):Qy P w K tg (ES K a) [it] it (λi h=>h.IsListIter it a i) where
 mem:=by simp
 obj:=λi h st b Y=>by
  have e:b=it:=by simpa using Y
  subst e;show"!S"
 keep:=λi h h' st k=>st.at λo e=>k it c_ o e
 item:=by
  show"!/";obtain⟨xs,x,hq,hx⟩:=hg;obtain⟨its,rv,p,hz⟩:=I.list hq;obtain⟨u,hu,ru⟩:=rv.get hx;show"!2";refine wpAny_pyNext_list_item st p.isList (x:=u) mm_ λh' h1 sb=>?_;show"!A";exact⟨u,rfl,b2g (s:=ir_) e c d d! ⟨x,H,I1,ru,rU_,h1,is!⟩⟩
 done:=by
  show"!/";obtain⟨xs,hq,hx⟩:=hg;obtain⟨its,rv,p,hz⟩:=I.list hq;show"!2";have hl:=eF!;exact wpAny_pyNext_list_end bq! st p.isList bL! λh' eb=>is_
 self:=λ_ _ _ _ _ st h=>wpAny_pyIter_listiter st h
def a7x{P:z3!}{w:yt!}{K:z1!}{tg:Expr}(it:xK!)(lo:Int)(n:Nat):Qy P w K tg (BV lo n) [it] it (λi h=>IsRangeIter h it (lo+(i:Nat)*1) ((n:Int) - (i:Nat)) 1) where
 mem:=by simp
 obj:=λi h st b Y=>by
  have e:b=it:=by simpa using Y
  subst e;exact⟨_,st,λv z=>by
   have z':Data.fields _=Data.cell v:=z;cases z'⟩
 keep:=λi h h' st k=>k it c_ _ st
 item:=by
  show"!/";show"!2";have W:=Walks.range (prog:=X.prog) (w:=X.w) bq! it lo 1 n;refine W.item i s _ _ hg st λv h' tk hv h1 kk=>?_;obtain⟨t,rfl⟩:=hv;show"!_";refine⟨_,rfl,b2g (s:={s with heap:=h',toks:=tk}) (n:="range_iterator") h1 rfl rfl d! ⟨.int (lo+i),H,I1,⟨t,?_⟩,bL_,h1,is!⟩⟩;rw[Int.mul_one]
 done:=by
  show"!/";show"!2";exact wpAny_pyNext_range_end bq! st (by have:n<=i:=hg;omega) λh' eb=>is_
 self:=λ_ _ _ _ _ st h=>wpAny_pyIter_rangeiter st h
end L2
namespace L2
open PySem PySem.Spec PyProof.Rows
section
variable{X:Cx}{tg:Expr}
def BK(K:z1!)(tl:TE):TI:=λZ H R=>tl Z H λx H1=>∃a,x=.ref a/\(∃xs,Ff K H1 a xs)/\R (ES K a) H1
def EI(K:z1!)(tl:TE):TI:=λZ H R=>tl Z H λx H1=>∃a,x=.ref a/\(∃xs,Gd K H1 a xs)/\R (GK K a) H1
def b1h{l:Expr}{tl:TE}(hl:PE X l tl):PI X tg l (BK X.K tl):=by
 intro O s Z H R I h;refine dA rW_ λv s1 ⟨x,H1,I1,r1,q1⟩=>?_;obtain⟨a,e,⟨xs,hq⟩,q⟩:=q1;subst e;cases r1;obtain⟨its,rv,p,hz⟩:=I1.list hq;refine wpAny_pyIter_list p.isList ?_;refine⟨A_,[A_],_,_,H1,rfl,it!,b3a a _,dE_,bq_,q⟩;have e:b=A_:=by simpa using Y
 show"!P"
def a5c{O:j!}{Z:St}{H:Hp}{s:z2!}{R:fZ_}{E:n_}{lo hi:Int}{t u v:Tok}{tk:Nat}(I:c!)(B:-f4_<=lo)(J:lo<2 ^ 62)(h3:-f4_<=hi)(h4:hi<2 ^ 62)
  (q:R (BV lo (pa_).toNat) H):wpAny e! X.A (pyIter dF!) rR_ E {s with heap:=s.heap.push {cls:=.type "range",data:=.fields #[.int lo t,.int hi u,.int 1 v]},toks:=tk}:=by
 refine wpAny_pyIter_range (IsRange.new ..) (small_one B J h3 h4) ?_;have I1:Inv X O Z H {s with heap:=s.heap.push {cls:=.type "range",data:=.fields #[.int lo t,.int hi u,.int 1 v]},toks:=tk}:=I.kept λb o e=>GQ _ e;refine⟨(mp!).objs.size,[(mp!).objs.size],_,_,H,rfl,
  I1.kept (t':=tk) λb o e=>GQ _ e,a7x _ lo (pa_).toNat,?_,λb Y=>?_,q⟩
 .have e1:lo+cW_*1=lo:=by simp
  have e2:rY_ - cW_=Builtin.Range.rangeSize lo hi 1:=by rw[rangeSize_one];split<;>omega
  show IsRangeIter _ _ (lo+cW_*1) (rY_ - cW_) 1;rw[e1,e2];exact HN _ rfl
 .have e:b=(mp!).objs.size:=by simpa using Y
  show"!P"
def BJ(ta:TA):TI:=λZ H R=>ta Z H λvs H1=>∃j:Int,vs=[eG!]/\-f4_<=j/\j<2 ^ 62/\R (BV 0 j.toNat) H1
def BI(ta:TA):TI:=λZ H R=>ta Z H λvs H1=>∃i j:Int,vs=[cq_,eG!]/\(-f4_<=i/\i<2 ^ 62/\-f4_<=j/\j<2 ^ 62)/\R (BV i (j - i).toNat) H1
def b3r{a:Expr}{ta:TA}{p pos:Pos}(hg:iu!)(hm:iu_)(ha:PA X [a] ta)(hs:r1!:=by rfl):PI X tg ye! (BJ ta):=by
 intro O s Z H R I h;refine Call_ (kJ I hg hm boot_range (JV mr! hs rfl));obtain⟨j,e,q1,q2,q⟩:=q1;subst e;cases r1 with
 |cons r rr=>
  cases rr;obtain⟨t,rfl⟩:=r;exact call_range_1 (a5c I1 a! a! q1 q2 (by simpa using q))
def b3q{a b:Expr}{ta:TA}{p pos:Pos}(hg:iu!)(hm:iu_)(ha:PA X al! ta)(hs:r2_:=by rfl)(bu:r3!:=by rfl):
  PI X tg r3_ (BI ta):=by
 intro O s Z H R I h;refine Call_ (kJ I hg hm boot_range (JV mr! (by rw[hs,bu]) (by rw[bu];rfl)));obtain⟨i,j,e,⟨q1,q2,q3,q4⟩,q⟩:=q1;subst e;cases r1 with
 |cons r rr=>
  cases rr with
  |cons r' rr=>
   cases rr;obtain⟨t,rfl⟩:=r;obtain⟨t',rfl⟩:=r';exact call_range_2 (a5c I1 q1 q2 q3 q4 q)
def DQ(wi:TI)(g:TG)(tb:TS):TS:=λD Z H=>wi Z H λac H1=>∃W:Nat->Nat->St->Hp->Prop,(∃m,W 0 m Z H1)/\∀i m Z H,W i m Z H->
 (ac.stop i H/\D.nx Z H)\/(ac.go i H/\∃N:St->Hp->Prop,(∀h2 H',N h2 H'->∃m',m'<m/\W aY_ m' h2 H')/\∀x H',ac.yld i H x H'->g x Z H' λdb H2=>tb {D with nx:=N,ct:=N,bk:=D.nx} db H2)
def Qh(fp:J!)(h:Heap):List et_:=fp.filterMap λb=>(h.get? b).map λo=>(b,o)
def kH{fp:J!}{h:Heap}{b:xK!}{o:Obj}(Y:b∈fp)(e:qM!):(b,o)∈Qh fp h:=LW.mpr ⟨b,Y,by rw[e];rfl⟩
def b4f{fp:J!}{h:Heap}{p:Addr×Obj}(hp:p∈Qh fp h):p.1∈fp/\h.get? p.1=some p.2:=by
 obtain⟨b,Y,e⟩:=LW.mp hp;cases q:h.get? b with
 |none=>rw[q]at e;cases e
 |some o=>
  rw[q]at e;have e':(b,o)=p:=IR e;subst e';exact⟨Y,q⟩
def Inv.pinned{O:j!}{Z:St}{H:Hp}{s:z2!}{fp:J!}(I:c!)(hf:∀b∈fp,Ii X O H b)(ho:∀b∈fp,∃o,s.heap.get? b=some o/\∀v,o.data≠.cell v):Inv X (O++Qh fp s.heap) Z H s:=
 I.pins_of λp hp=>(GZ.mp hp).elim (λz=>I.pin p (HD _ z)) λz=>by
  obtain⟨Y,e⟩:=b4f z;obtain⟨f0,f1,f2,_⟩:=hf p.1 Y;obtain⟨o,e',d⟩:=ho p.1 Y;rw[e]at e';cases e';exact⟨e,f0,f1,f2,d⟩
def Inv.unpinned{O pl:j!}{Z:St}{H:Hp}{s:z2!}(I:Inv X (O++pl) Z H s):Inv X O Z H s:=I.pins_of λp hp=>I.pin p (HD _ iw!)
def b6w{body:bp!}{wi:TI}{g:TG}{tb:TS}{pos:Pos}(hp:fZ!)(hc:bb_)(hi:mt!)(hg:mi!)(Y:Ov X body tb)
  (hs:cX_:=by intro _;rfl):PS X r7! (DQ wi g tb):=by
 intro O s Z H D I h;refine wpAny_For (dA (hi O s Z H _ I h) λv s1 B=>dA B λv9 s2 J=>?_) hs;obtain⟨it,fp,tn,ac,H2,e,I2,T,bi,f2,W,⟨m0,w0⟩,turn⟩:=J;subst e;have nj:∀{H':Hp},f9!->∀b∈fp,Ii X O H' b:=λhn b Y=>⟨hn b Y,(ix!).2⟩;refine codeAny_forLoop_any (λn s'=>∃i h2 H',Inv X O h2 H' s'/\tn i s'.heap/\f9!/\W i n h2 H') ?_ m0 ⟨0,Z,H2,I2,bi,r9!,w0⟩;rintro n s3 ⟨i,gq,H3,I3,wb,TK,w3⟩;obtain⟨stop,qn⟩|⟨go,N,hN,step⟩:=turn i n gq H3 w3
 .refine MV hp (dA (T.done X rfl rfl rfl hc i O s3 gq H3 X.xe I3 (nj TK) wb stop) λr s4 ⟨hr,I4⟩=>?_);subst hr;exact OJ ⟨gq,H3,I4,qn⟩
 .refine MV hp (dA (T.item X rfl rfl rfl hc i O s3 gq H3 X.xe I3 (nj TK) wb go) λr s4 ⟨u,hr,h4⟩=>?_);subst hr;refine MV hp (dA h4 λ_ s5 ⟨x,H5,I5,r5,y5,nu,yj⟩=>?_);have yk:=I5.pinned (nj yj) sb!;refine MV hp (dA (hg _ s5 gq H5 x u _ yk r5 sb_) λ_ s6 ⟨mh,H6,I6,q6⟩=>?_);refine MV hp (dA (Y _ s6 mh H6 _ I6 q6) λf s7 q7=>?_);have again:∀{iw:St} {H7:Hp},Inv X (O++Qh fp s5.heap) iw H7 s7->N iw H7->∃m,m<n/\∃i h2 H',Inv X O h2 H' s7/\tn i s7.heap/\f9!/\W i m h2 H':=λ{iw H7} I7 n7=>by
   obtain⟨m',hm,w7⟩:=hN iw H7 n7;refine⟨m',hm,i+1,iw,H7,iy_,T.keep _ _ _ nu λb Y o e=>(sd_).1,bq_,w7⟩;obtain⟨o,e,d⟩:=T.obj _ _ nu b Y;exact(sd_).2.1
  cases f with
  |next=>obtain⟨iw,H7,I7,n7⟩:=q7;exact again I7 n7
  |cont=>obtain⟨iw,H7,I7,n7⟩:=q7;exact again I7 n7
  |brk=>obtain⟨iw,H7,I7,q7⟩:=q7;exact⟨iw,H7,iy_,q7⟩
  |ret v=>obtain⟨x7,iw,H7,I7,r7,q7⟩:=q7;exact⟨x7,iw,H7,iy_,r7,q7⟩
end
end L2
namespace L2
open PySem PySem.Spec PyProof.Rows
abbrev R2:=V->V->Hp->VK->Prop
def Gi(X:Cx)(f:eH!)(r:R2):Prop:=
 ∀(O:j!) (s:z2!) (Z:St) (H:Hp) (x y:V) (v u:ys!) (Q:VK),Inv X O Z H s->Bp x v->Bp y u->r x y H Q->
  wpAny e! X.A (f v u) aG! X.xe s
def EN(X:Cx)(f:yI_)(r:mv_):Prop:=
 ∀(O:j!) (s:z2!) (Z:St) (H:Hp) (x:V) (v:ys!) (Q:VK),Inv X O Z H s->Bp x v->r x H Q->
  wpAny e! X.A (f v) aG! X.xe s
def Ip(X:Cx)(f:ys!)(r:cZ!):Prop:=
 ∀(O:j!) (s:z2!) (Z:St) (H:Hp) (xs:k!) (us:g_) (Q:VK),Inv X O Z H s->Ba xs us->r xs H Q->
  wpAny e! X.A (call f us) aG! X.xe s
def EO(X:Cx)(r:V->Hp->rg!->Prop):Prop:=
 ∀(O:j!) (s:z2!) (Z:St) (H:Hp) (x:V) (v:ys!) (Q:dB!),Inv X O Z H s->Bp x v->r x H Q->
  wpAny e! X.A l2_ ib! X.xe s
def Zy(r:R2)(ta tb:TE):TE:=λZ H Q=>ta Z H λx H1=>tb Z H1 λy H2=>r x y H2 Q
def FU(r:mv_)(ta:TE):TE:=λZ H Q=>ta Z H λx H1=>r x H1 Q
nonrec def rI(C:mx!)(g:iz_):R2:=λx y H Q=>∃i j,x=.int i/\y=.int j/\C i j/\Q br_ H
def Ru(g:iz_):R2:=λx y H Q=>∃i j,x=.int i/\y=.int j/\Q br_ H
nonrec def rU(g:Int->V):V->Hp->VK->Prop:=λx H Q=>∃i,x=.int i/\Q (g i) H
section
variable{X:Cx}{a b c:Expr}{ta tb tc:TE}{pos:Pos}
def c9j(ha:aX!)(Y:cp!){O:j!}{s:z2!}{Z:St}{H:Hp}{R:rk_}(I:c!)
  (h:rk!){Q:n_}{f:eH!}
  (hf:rl!):
  wpAny e! X.A lY! rm_ X.xe s:=by
 show"!:"
def b7h{op:Operator}{r:R2}(ho:my!)(ha:aX!)(Y:cp!):PE X my_ iA_:=by intro O s Z H Q I h;exact wpAny_BinOp se_
def d0k{op:UnaryOp}{r:mv_}(ho:EN X (unaryOp op) r)(ha:aX!):PE X (.UnaryOp op a pos) (FU r ta):=by intro O s Z H Q I h;exact UnaryOp_ (dA b1_ λv s1 ⟨x,H1,I1,r1,q1⟩=>ho O s1 Z H1 x v Q I1 r1 q1)
def opI{f:eH!}{C:mx!}{g:mi_}
  (rule:∀(i j:Int) (t u:Tok) (s:z2!) (Q:n_) (E:n_),C i j->Q sf_ {s with toks:=s.toks+1}->wpAny e! X.A mA! Q E s):
  Gi X f (rI C λi j=>.int br_):=by
 intro O s Z H x y v u Q I rx ry h;obtain⟨i,j,rfl,rfl,hc,q⟩:=h;show"!>";obtain⟨t',rfl⟩:=ry;exact rule i j t t' s _ _ hc sg_
def d0p{f:eH!}{g:mi_}
  (rule:∀(i j:Int) (t u:Tok) (s:z2!) (Q:n_) (E:n_),Q sf_ {s with toks:=s.toks+1}->wpAny e! X.A mA! Q E s):
  Gi X f (Ru λi j=>.int br_):=by
 show"!I";exact rule i j t t' s _ _ sg_
def c2u{f:eH!}{g:mB!}
  (rule:∀(i j:Int) (t u:Tok) (s:z2!) (Q:n_) (E:n_),Q (.bool br_) s->wpAny e! X.A mA! Q E s):
  Gi X f (Ru λi j=>.bl br_):=by
 show"!I";exact rule i j t t' s _ _ ⟨.bl br_,H,I,rfl,q⟩
def Zv(i j:Int):Prop:=0<j/\j<1073741824
def Zu(i j:Int):Prop:=0<=j/\j<=1000000/\ga!<2 ^ 64
def Wt(i j:Int):Prop:=(-iB_<i/\i<2 ^ 64)\/(-iB_<j/\j<2 ^ 64)
def Wt.ok{i j:Int}(h:Wt i j):IntMulOk i j:=by
 obtain⟨B,J⟩|⟨B,J⟩:=h
 .exact .of_left sj!
 .exact .of_right sj!
def c7b:Gi X eI! (Ru λi j=>.int (i+j)):=d0p λ_ _ _ _ _ _ _ q=>add_int q
def qR:Gi X (binaryOp .Sub) sk_:=d0p λ_ _ _ _ _ _ _ q=>sub_int q
def qT:Gi X sl! mD!:=opI λ_ _ _ _ _ _ _ hc q=>mul_int q hc.ok
def mM:Gi X (binaryOp .FloorDiv) mE!:=opI λi j _ _ _ _ _ hc q=>by
 have B:(0:Int)<j:=hc.1;have J:j<1073741824:=hc.2;exact floordiv_int a! (by rw[Int.fdiv_eq_ediv_of_nonneg i a!];exact q) (.inl (PyProof.noPylong_small a!))
def eW:Gi X (binaryOp .Mod) mF_:=opI λi j _ _ _ _ _ hc q=>by
 have B:(0:Int)<j:=hc;exact mod_int' a! (by rw[Int.fmod_eq_emod_of_nonneg i a!];exact q)
def c6v:Gi X (binaryOp .Pow) mG_:=opI λ_ _ _ _ _ _ _ hc q=>pow_int_small hc.1 hc.2.1 hc.2.2 q
def unI{f:yI_}{g:Int->Int}
  (rule:∀(i:Int) (t:Tok) (s:z2!) (Q:n_) (E:n_),Q (.int (g i) s.toks) {s with toks:=s.toks+1}->wpAny e! X.A (f dx!) Q E s):
  EN X f (rU λi=>.int (g i)):=by
 intro O s Z H x v Q I rx h;obtain⟨i,rfl,q⟩:=h;show"!>";exact rule i t s _ _ ⟨.int (g i),H,aX_,I!,q⟩
def c5y:EN X (unaryOp .USub) (rU λi=>.int (-i)):=unI λ_ _ _ _ _ q=>neg_int q
end
def DY:V->V->Bool
 |.non,.non=>true|.non,.int _=>true|.int _,.non=>true|.non,.bl _=>true|.bl _,.non=>true|.non,.str _=>true|.str _,.non=>true
 |.int _,.int _=>true|.bl _,.bl _=>true|.str _,.str _=>true|.byt _,.byt _=>true
 |.int _,.str _=>true|.str _,.int _=>true|.bl _,.str _=>true|.str _,.bl _=>true
 |_,_=>false
def FD:R2:=λx y H Q=>DY x y=true/\Q (.bl (!decide (x=y))) H
def b2l{i j:Int}:decide (V.int i=V.int j)=(i==j):=by rw[KF];simp
def c8w{i j:Bool}:decide (V.bl i=V.bl j)=(i==j):=by rw[KF];simp
def b2k:decide (V.str i=V.str j)=(i==j):=by rw[KF];simp
def c4k{i j:Array UInt8}:decide (V.byt i=V.byt j)=(i.toList==j.toList):=by rw[KF];cases i;cases j;simp
section
variable{X:Cx}{a b c:Expr}{ta tb tc:TE}{pos:Pos}
def eJ{O:j!}{Z:St}{H:Hp}{s:z2!}{Q:VK}{k k':Bool}(I:c!)(q:Q (.bl k) H)(e:k=k'):EP X O Z Q (.bool k') s:=by subst e;exact⟨.bl k,H,I,rfl,q⟩
def yU:Gi X sq! FD:=by
 intro O s Z H x y v u Q I rx ry h;obtain⟨hs,q⟩:=h;cases x with
 |non=>
  cases rx;cases y with
  |non=>cases ry;exact PySem.EqNone.ne_none_none bO_
  |bl j=>cases ry;exact PySem.EqNone.ne_none_bool bO_
  |int j=>obtain⟨t',rfl⟩:=ry;exact PySem.EqNone.ne_none_int bO_
  |str j=>obtain⟨t',rfl⟩:=ry;exact PySem.EqNone.ne_none_str bO_
  |_=>exact absurd eI_ HM
 |bl i=>
  cases rx;cases y with
  |non=>cases ry;exact PySem.EqNone.ne_bool_none bO_
  |bl j=>cases ry;exact ne_bool (eJ I q (congrArg not c8w))
  |str j=>obtain⟨t',rfl⟩:=ry;exact PySem.EqMixed.ne_bool_str bO_
  |_=>exact absurd eI_ HM
 |int i=>
  obtain⟨t,rfl⟩:=rx;cases y with
  |non=>cases ry;exact PySem.EqNone.ne_int_none bO_
  |int j=>obtain⟨t',rfl⟩:=ry;exact ne_int (eJ I q (congrArg not b2l))
  |str j=>obtain⟨t',rfl⟩:=ry;exact PySem.EqMixed.ne_int_str bO_
  |_=>exact absurd eI_ HM
 |str i=>
  obtain⟨t,rfl⟩:=rx;cases y with
  |non=>cases ry;exact PySem.EqNone.ne_str_none bO_
  |bl j=>cases ry;exact PySem.EqMixed.ne_str_bool bO_
  |int j=>obtain⟨t',rfl⟩:=ry;exact PySem.EqMixed.ne_str_int bO_
  |str j=>obtain⟨t',rfl⟩:=ry;exact ne_str (eJ I q (congrArg not b2k))
  |_=>exact absurd eI_ HM
 |byt i=>
  obtain⟨t,rfl⟩:=rx;cases y with
  |byt j=>obtain⟨t',rfl⟩:=ry;exact W.ne_bytes (eJ I q (congrArg not c4k))
  |_=>exact absurd eI_ HM
 |_=>cases y<;>exact absurd eI_ HM
def b1p:Gi X (compareOp .Lt) mI!:=c2u λ_ _ _ _ _ _ _ q=>lt_int q
def d0m:Gi X mI_ (Ru λi j=>.bl mJ!):=c2u λ_ _ _ _ _ _ _ q=>le_int q
def b1q:Gi X zr_ mK_:=c2u λ_ _ _ _ _ _ _ q=>gt_int q
def d0o:Gi X (compareOp .GtE) mL_:=c2u λ_ _ _ _ _ _ _ q=>ge_int q
def a8s:Gi X (compareOp .Is) sr!:=by
 intro O s Z H x y v u Q I rx ry h;obtain⟨rfl,q⟩:=h;cases ry;refine is_none_gen (eJ I q ?_);cases x<;>first
  |(cases rx;rfl)
  |(obtain⟨t,rfl⟩:=rx;rfl)
def mL:Gi X (compareOp .IsNot) sr_:=by
 intro O s Z H x y v u Q I rx ry h;obtain⟨rfl,q⟩:=h;cases ry;refine isnot_none_gen (eJ I q ?_);cases x<;>first
  |(cases rx;rfl)
  |(obtain⟨t,rfl⟩:=rx;rfl)
def Gi.or{f:eH!}{r r':R2}(h:Gi X f r)(h':Gi X f r'):Gi X f ss!:=by
 intro O s Z H x y v u Q I rx ry q;obtain q|q:=q
 .exact h O s Z H x y v u Q I rx ry q
 .exact h' O s Z H x y v u Q I rx ry q
def aQ(b:Expr){op:CmpOp}(h:op≠.In:=by decide)(J:op≠.NotIn:=by decide):behindInMarks op b=false:=by
 have e1:rs!=false:=by cases op<;>first|rfl|exact absurd rfl h
 have e2:rs_=false:=by cases op<;>first|rfl|exact absurd rfl J
 cases b<;>simp[behindInMarks,e1,e2]
def b1m{op:CmpOp}{r:R2}(ho:b4_)(ha:aX!)(Y:cp!)(hm:dB_):PE X dC! iA_:=by intro O s Z H Q I h;exact wpAny_Compare1 se_ hm
def Yc(t:TE):TT:=λZ H Q=>t Z H λx H'=>∃k,x=.bl k/\Q k H'
def b1b{op:CmpOp}{r:R2}(ho:b4_)(ha:aX!)(Y:cp!)(hm:dB_):PT X dC! (Yc iA_):=by
 intro O s Z H Q I h;refine QD (dA b1_ λv s1 ⟨x,H1,I1,r1,q1⟩=>dA fV_ λu s2 ⟨y,H2,I2,r2,q2⟩=>
  dA mN! λc s3 ⟨z,H3,I3,r3,k,e,q3⟩=>?_) hm
 subst e;cases r3;exact IS ⟨H3,I3,q3⟩
def Vu(r r':R2)(ta tb tc:TE):TE:=λZ H Q=>ta Z H λx H1=>tb Z H1 λy H2=>r x y H2 λz H3=>∃k,z=.bl k/\
 (if k=true then tc Z H3 λw' H4=>r' y w' H4 Q else Q ah_ H3)
def b7n{op eh:CmpOp}{r r':R2}(ho:b4_)(dz:iE!)(ha:aX!)(Y:cp!)(hc:PE X c tc)
  (hm:iE_:=by with_unfolding_all rfl):PE X iF! st_:=by
 intro O s Z H Q I h;refine Compare_chain (dA b1_ λv s1 ⟨x,H1,I1,r1,q1⟩=>chain_link (dA fV_ λu s2 ⟨y,H2,I2,r2,q2⟩=>
  dA mN! λd s3 ⟨z,H3,I3,r3,k,e,q3⟩=>?_)) hm
 subst e;cases r3;refine IS ?_;cases k with
 |false=>exact ite_ff ⟨l8_,H3,I3,rfl,q3⟩
 |true=>exact ite_tt (chain_last (dA st! λw' s4 ⟨z',H4,I4,r4,q4⟩=>dz O s4 Z H4 y z' u w' Q I4 r2 r4 q4))
def b6r{op eh:CmpOp}{r r':R2}(ho:b4_)(dz:iE!)(ha:aX!)(Y:cp!)(hc:PE X c tc)
  (hm:iE_:=by with_unfolding_all rfl):PT X iF! (Yc st_):=by
 intro O s Z H Q I h;refine isTrue_chain (dA b1_ λv s1 ⟨x,H1,I1,r1,q1⟩=>test_link (dA fV_ λu s2 ⟨y,H2,I2,r2,q2⟩=>
  dA mN! λd s3 ⟨z,H3,I3,r3,k,e,q3⟩=>?_)) hm
 subst e;cases r3;refine IS ?_;cases k with
 |false=>
  obtain⟨k',e',q'⟩:=q3;cases e';exact ite_ff ⟨H3,I3,q'⟩
 |true=>
  refine ite_tt (test_last (dA st! λw' s4 ⟨z',H4,I4,r4,q4⟩=>dA (dz O s4 Z H4 y z' u w' _ I4 r2 r4 q4) λd' s5 ⟨z2,H5,I5,r5,k2,e2,q5⟩=>?_));subst e2;cases r5;exact IS ⟨H5,I5,q5⟩
def BQ(K:z1!)(x:V)(H:Hp)(k:Bool):Prop:=
 match x with
 |.non=>k=false
 |.bl b=>k=b
 |.int i=>k=gd_
 |.str y=>ct_<=sizeLine/\k=((ct_:Int) != 0)
 |.byt y=>y.size<=sizeLine/\k=((y.size:Int) != 0)
 |.ref p=>(∃xs,Ff K H p xs/\k=! dG_)\/(∃xs,Gd K H p xs/\k=! dG_)\/∃kvs,H p=some dH!/\k=! mO!
 |_=>False
def a9p{κ:Type}{kvs:ge!}{vs:List lv_}(r:KV kvs vs):(!vs.isEmpty)=! mO!:=by cases r<;>rfl
def wG{xs:k!}{its:g_}(r:Ba xs its):(! mO_)=! dG_:=by cases r<;>simp
def rD:(sizeLine:Nat)<2 ^ 63:=by rw[JC];decide
def c5z:EO X (λx H Q=>∃k,BQ X.K x H k/\Q k H):=by
 intro O s Z H x v Q I rx h;obtain⟨k,e,q⟩:=h;have hl:=rD;have hs:sizeLine=16777216:=JC;cases x with
 |non=>
  cases rx;have e':k=false:=e;subst e';exact truthy_none mP!
 |bl b=>
  cases rx;have e':k=b:=e;subst e';exact IS mP!
 |int i=>
  show"!>";have e':k=gd_:=e;subst e';exact PySem.P.truthy_int mP!
 |str y=>
  show"!>";obtain⟨hy,e'⟩:ct_<=sizeLine/\k=((ct_:Int) != 0):=e;subst e';exact PySem.P.truthy_str a! ⟨H,aX_,q⟩
 |byt y=>
  show"!>";obtain⟨hy,e'⟩:y.size<=sizeLine/\k=((y.size:Int) != 0):=e;subst e';exact W.truthy_bytes a! ⟨H,aX_,q⟩
 |ref p=>
  cases rx;have e':(∃xs,Ff X.K H p xs/\k=! dG_)\/(∃xs,Gd X.K H p xs/\k=! dG_)\/∃kvs,H p=some dH!/\k=! mO!:=e;obtain⟨xs,hx,e'⟩|⟨xs,hx,e'⟩|⟨kvs,hx,e'⟩:=e'
  .subst e';obtain⟨its,r,pl,hz⟩:=I.list hx;have ar:=az_;exact wpAny_truthy_list pl.isList iG_ sv_
  .subst e';obtain⟨its,r,pl,hz⟩:=I.tuple hx;have ar:=az_;exact truthy_tuple pl iG_ sv_
  .subst e';obtain⟨hz,hS,vs,r,m⟩:az!<=sizeLine/\(p==sysModules)=false/\∃vs,KV kvs vs/\s.heap.DictOf (mixKind X.prog X.w) p vs:=I.hok p _ hx;have ar:az!=bd!:=LN r;exact wpAny_truthy_dict hS m a! ⟨H,aX_,by rw[a9p r];exact q⟩
 |_=>exact(sw!).elim
def b6p(ha:aX!)(he:∀dt,isTrue a X.env dt=(do let v <-dt;standAt a.pos;holding [v] l2_)):
  PT X a (λZ H Q=>ta Z H λx H'=>∃k,BQ X.K x H' k/\Q k H'):=by
 show"!G";exact isTrue_plain (dA b1_ λv s1 ⟨x,H1,I1,r1,q1⟩=>c5z O s1 Z H1 x v Q I1 r1 q1) (he _)
def a8t:Gi X eI! (λx y H Q=>∃i j,x=.str i/\y=.str j/\i.length+j.length<=sizeLine/\Q (.str (i++j)) H):=by intro O s Z H x y v u Q I rx ry h;obtain⟨i,j,rfl,rfl,hz,q⟩:=h;obtain⟨t,rfl⟩:=rx;obtain⟨t',rfl⟩:=ry;exact add_str (λt' tk=>⟨.str (i++j),H,aX_,I!,q⟩) hz
def rY{x:V}(r:Ba [x] us):∃u,us=[u]/\Bp x u:=by
 cases r with
 |cons r1 r2=>cases r2;exact⟨_,rfl,r1⟩
def yJ{x y:V}(r:Ba [x,y] us):∃u w',us=[u,w']/\Bp x u/\Bp y w':=by
 cases r with
 |cons r1 r2=>
  cases r2 with
  |cons r3 r4=>cases r4;exact⟨_,_,rfl,r1,r3⟩
def c0w:Ip X sx! sx_:=by intro O s Z H xs us Q I r h;obtain⟨i,rfl,q⟩:=h;obtain⟨u,rfl,t,rfl⟩:=rY r;exact call_abs_int λu tk=>⟨.int iI!,H,aX_,I!,q⟩
def c0t:Ip X sy_ sz_:=by intro O s Z H xs us Q I r h;obtain⟨x,rfl,hz,q⟩:=h;obtain⟨u,rfl,t,rfl⟩:=rY r;exact ord_of_one hz io!
def Zr(K:z1!)(x:V)(H:Hp)(n:Nat):Prop:=
 match x with
 |.str y=>ct_<=sizeLine/\n=ct_
 |.byt y=>y.size<=sizeLine/\n=y.size
 |.ref p=>(∃xs,Ff K H p xs/\n=i!)\/∃xs,Gd K H p xs/\n=i!
 |_=>False
def cD:Ip X mQ! (λxs H Q=>∃x n,xs=[x]/\Zr X.K x H n/\Q gf! H):=by
 intro O s Z H xs us Q I r h;obtain⟨x,n,rfl,e,q⟩:=h;obtain⟨u,rfl,rx⟩:=rY r;have hl:=rD;have hs:sizeLine=16777216:=JC;cases x with
 |str y=>
  show"!>";obtain⟨hy,e'⟩:ct_<=sizeLine/\n=ct_:=e;subst e';exact len_str a! io!
 |byt y=>
  show"!>";obtain⟨hy,e'⟩:y.size<=sizeLine/\n=y.size:=e;subst e';exact W.len_bytes a! io!
 |ref p=>
  cases rx;have e':(∃xs,Ff X.K H p xs/\n=i!)\/∃xs,Gd X.K H p xs/\n=i!:=e;obtain⟨xs,hx,e'⟩|⟨xs,hx,e'⟩:=e'
  .subst e';obtain⟨its,r',pl,hz⟩:=I.list hx;have ar:=r'.length;exact Calls.call_len_list pl.isList iG_ sA_
  .subst e';obtain⟨its,r',pl,hz⟩:=I.tuple hx;have ar:=r'.length;exact len_tuple pl iG_ sA_
 |_=>exact(sw!).elim
end
end L2
namespace L2
open PySem PySem.Spec PyProof.Rows
structure Ug(h:Heap)(x dx C:xK!)(mA:y_):Prop where
 obj:h.get? x=some ly!
 ns:h.Ns1 dx mA
 ne:dx≠x
def b4m{h:Heap}{dx:xK!}{mA:y_}(n:h.Ns1 dx mA):∃od,h.get? dx=some od/\∀name,W.lookIn name od=some (mA name):=by
 obtain⟨o,es,ep,ho,hd,hk,_,hm⟩:=n;refine⟨o,ho,λname=>?_⟩;have e:=hm name;unfold nsFind findBy at e;rw[<-Array.find?_toList]at e;unfold W.lookIn;rw[hd];dsimp only;split
 .rename_i y q;rw[q]at e;exact congrArg some e
 .rename_i q;rw[q]at e;have a:es.toList.any (·.refKey)=false:=by
   rw[List.any_eq_false];intro y hy;obtain⟨z,t,X7⟩:=hk y (Array.mem_toList_iff.mp hy);simp[DictEntry.refKey,X7]
  have a':¬es.toList.any (·.refKey)=true:=by rw[a];exact HM
  rw[GS a'];exact congrArg some e
def Ug.look{h:Heap}{x dx C:xK!}{mA:y_}(I:Ug h x dx C mA):∃od,W.InstAt h x ly! C (some od)/\∀name,W.lookIn name od=some (mA name):=
 let⟨od,ho,hl⟩:=b4m I.ns
 ⟨od,⟨I.obj,rfl,rfl,ho⟩,hl⟩
section
variable{prog:z3!}{w:yt!}{A:xX!}{E:Value->Shared->Prop}{s:z2!}{K:z1!}{x dx C f:xK!}{mA:Str->Option Value}{name:Str}{v:ys!}
def c3w{expr:Bool}{Q:n_}(X:gf_)(I:mQ_)(hg:sB!)(hh:sB_)
  (ha:W.findIn K ab_ name=some none)(hv:mA name=some v)(ym:W.handedIn v=true)(h:Q v {s with toks:=s.toks+1}):
  wpAny q! A (getAttr fM! name expr) Q E s:=by
 show"#8";exact W.get_value X ac (mR_).1 (W.findObj_own hh ha rfl (by rw[hl,hv])) ym h
def b9n{pl:dI_}{Q:sD!}(X:gf_)(I:mQ_)(hg:sB!)
  (hf:W.findIn K ab_ name=some eK!)(ht:mS!)(hv:mA name=none)(h:Q (.ref f,[.ref x]) s):
  wpAny q! A (getMethod fM! name pl) Q E s:=by
 show"#8";exact W.method_fn X ac (mR_).1 (mR_).2 hf (MH.mp ht) (by show(W.lookIn name od).map (·.isSome)=some false;rw[hl,hv];rfl) h
def c1s{ns:n!}{Q:cS_}(X:gf_)(I:mQ_)
  (hs:W.findIn K ab_ "__setattr__"=some sE!)(hp:W.plainOver K C=true)(ht:W.takerIn K C name=some none)(hh:sB_)
  (hw:PySem.Within mA ns)(hsz:sE_)
  (h:∀h',Ug h' x dx C (λy=>if y=name then some v else mA y)->Heap.SameBut dx s.heap h'->Q () {s with heap:=h',toks:=s.toks+2}):
  wpAny q! A (setAttr fM! name v) Q E s:=by
 show"#8";refine W.set_plain X ac hs (W.osa_open (s:=mT!) (r:=none) X ac hp ht λb=>?_);obtain⟨cd,hc,tj⟩:=W.any_some hh;have hx:s.heap.get? x=some ⟨.ref C,some dx,.plain,#[]⟩:=I.obj;refine GM (GO (GM (GM (QN hx (GM (W.Looks.here (s:=mT!) (W.looks_clsIn X hc) ?_))))));rw[tj];refine GO (a:=some dx) (GM (GO gg_));refine wpAny_nsSet1 (s:=mT!) I.ns λh' j9 bu=>?_;obtain⟨oD,esD,epD,yn,yo,X8⟩:=j9.count (PySem.Within.cons name v hw);refine GM (wpAny_lookBehind yn (by rw[yo];exact pastItsLine_dict (IE X8 (by rw[HA];omega))) ?_);exact GO (h _ ⟨(bu.2 _ (GT I.ne)).trans I.obj,j9,I.ne⟩ bu)
def b8s{R:sF_}{kw:dJ_}(X:gf_)(hm:sG_)
  (hi:sG!)(hf:W.typeIn K ah!=some (.type "function"))
  (h:codeAny q! (A.under (.builtin "type.__call__" ⟨.ref C::vs,kw⟩)) (.call ah! ⟨.ref ae_::vs,kw⟩) (W.InitBack ae_ R)
   {s with heap:=(eK_).push iL_}):
  codeAny q! A (.call ab_ ⟨vs,kw⟩) R s:=by
 obtain⟨hh,g,d,t,os⟩:=s;exact W.make_core (W.makes_of X hm) (W.looks_findIn X hi) (λself=>W.bind_fn X self hf) aF_ h
end
def Kj(f:Str)(v:V):List dx_->List dx_
 |[]=>[(f,v)]
 |(g,x)::r=>if g=f then(g,v)::r else(g,x)::Kj f v r
def sE(f g:Str)(v:V):∀fs:List dx_,(iM!).lookup g=if g=f then some v else fs.lookup g
 |[]=>by
  show List.lookup g [(f,v)]=_;by_cases h:g=f
  .have Y:(g==f)=true:=MH.mpr h;simp only[List.lookup,Y,HB h]
  .have Y:(g==f)=false:=KR.mpr h;simp only[List.lookup,Y,GS h]
 |(k,x)::r=>by
  have ih:=sE f g v r;rw[mT_];by_cases hk:k=f
  .rw[a0_];by_cases h:g=k
   .have Y:(g==k)=true:=MH.mpr h;simp only[List.lookup,Y,HB (h.trans hk)]
   .have Y:(g==k)=false:=KR.mpr h;simp only[List.lookup,Y,GS (λe:g=f=>h (e.trans hk.symm))]
  .rw[aB_];by_cases h:g=k
   .have Y:(g==k)=true:=MH.mpr h;simp only[List.lookup,Y,GS (λe:g=f=>hk (h.symm.trans e))]
   .have Y:(g==k)=false:=KR.mpr h;simp only[List.lookup,Y];exact ih
def rE(f:Str)(v:V):∀fs:List dx_,f∈(iM!).map b_/\∀g,g∈fs.map b_->g∈(iM!).map b_
 |[]=>⟨by simp[Kj],λg h=>by simp at h⟩
 |(k,x)::r=>by
  obtain⟨i1,i2⟩:=rE f v r;rw[mT_];by_cases hk:k=f
  .rw[a0_];subst hk;exact⟨F!,λg h=>by simpa using h⟩
  .rw[aB_];refine⟨?_,λg h=>?_⟩
   .rw[GY];exact GP _ i1
   .rw[GY]at h ⊢;obtain e|e:=GR.mp h
    .exact GR.mpr (.inl e)
    .exact GP _ (i2 g e)
def sH(f:Str)(v:V):∀fs:List dx_,(iM!).length<=bn_+1
 |[]=>by simp[Kj]
 |(k,x)::r=>by
  have ih:=sH f v r;rw[mT_];by_cases hk:k=f
  .rw[a0_,HA,HA];omega
  .rw[aB_,HA,HA];omega
def Nr.some_of{v:V}{o:iN!}(r:Nr ba_ o):∃u,o=some u/\Bp v u:=by
 cases o with
 |none=>exact(iN_).elim
 |some u=>exact⟨u,rfl,r⟩
def Nr.none_of{o:iN!}(r:Nr none o):o=none:=by
 cases o with
 |none=>rfl
 |some u=>exact(iN_).elim
def b4t{v:V}{u:ys!}(r:bo_):W.handedIn u=true:=by
 cases v with
 |non=>cases (show u=co_ from r);rfl
 |bl b=>cases (show u=Value.bool b from r);rfl
 |int i=>obtain⟨t,e⟩:=sK!;cases e;rfl
 |str x=>obtain⟨t,e⟩:=sK_;cases e;rfl
 |byt b=>obtain⟨t,e⟩:=(show∃t,u=Value.bytes b t from r);cases e;rfl
 |flt b=>obtain⟨t,e⟩:=(show∃t,u=Value.float b t from r);cases e;rfl
 |ref a=>cases sL!;rfl
 |ty n=>cases (show u=Value.type n from r);rfl
section
variable{P:z3!}{w:yt!}{H H':Hp}{h h':Heap}{a C dx:xK!}{fs qh:List (Str×V)}
def a3h(hok:ba!)(e:iO_):∃mA,Ug h a dx C mA/\qB_/\PySem.Within mA ly_/\bn_<=1000/\H dx=some fS_:=by obtain⟨d,z,ne,ob,mA,n,r,q⟩:=(show Er P w H h a eL! from hok a _ e);exact⟨mA,⟨ob,n,ne⟩,r,q,z,d⟩
end
structure Tu(K:z1!)(C:xK!):Prop where
 pg:W.plainGet K C Str.empty=true
 hd:W.hasDictIn K C=true
 po:W.plainOver K C=true
 sa:W.findIn K ab_ "__setattr__"=some sE!
def Tu.get{K:z1!}{C:xK!}(c:Tu K C)(f:Str):W.plainGet K C f=true:=c.pg
def Ed(K:z1!)(C:xK!)(f:Str):Prop:=W.findIn K ab_ f=some none
def Ed.taker{K:z1!}{C:xK!}{f:Str}(n:Ed K C f):W.takerIn K C f=some none:=by unfold W.takerIn;rw[show W.findIn K ab_ f=some none from n];rfl
structure Vl(K:z1!)(C:xK!)(m:Str)(f:xK!):Prop where
 at_:W.findIn K ab_ m=some eK!
 fn:W.isFn K ah!=true
 kp:W.keepIn K ah!=true
section
variable{X:Cx}{O:List (Addr×Obj)}{Z:St}{H:Hp}{s:z2!}{a C dx:xK!}{fs:List (Str×V)}{f:Str}{v:V}{A:xX!}{E:Value->Shared->Prop}
def a9t{b:Bool}{Q:n_}(I:c!)(e:iO_)(c:dK!)(n:Ed X.K C f)(l:fs.lookup f=some v)
  (h:∀u s',Inv X O Z H s'->Bp v u->Q u s'):wpAny e! A (getAttr S_ f b) Q E s:=by
 obtain⟨mA,nv,r,_,_,_⟩:=a3h I.hok e;obtain⟨u,hu,ru⟩:=Nr.some_of (v:=v) (o:=mA f) (by rw[<-l];exact r f);exact c3w I.kIn nv (c.get f) c.hd n hu (b4t ru) (h u _ iQ! ru)
def nX{m:Str}{pl:dI_}{Q:sD!}(I:c!)(e:iO_)(c:dK!)(k:Vl X.K C m g)(l:fs.lookup m=none)
  (h:Q (.ref g,bd_) s):wpAny e! A (getMethod S_ m pl) Q E s:=by
 obtain⟨mA,nv,r,_,_,_⟩:=a3h I.hok e;have hn:mA m=none:=Nr.none_of (by rw[<-l];exact r m);exact b9n I.kIn nv (c.get m) k.at_ k.fn hn h
def a8c{y:V}{u:ys!}{Q:cS_}(I:c!)(e:iO_)(c:dK!)(n:Ed X.K C f)(hl:bn_<1000)(ry:Bp y u)
  (h:∀s',Inv X O Z (upd H a sO_) s'->Q () s'):wpAny e! A (setAttr S_ f u) Q E s:=by
 obtain⟨mA,nv,r,wi,_,ho⟩:=a3h I.hok e;have hz:(ly_).length<=sizeLine:=by rw[HG,JC];omega
 refine c1s I.kIn nv c.sa c.po n.taker c.hd wi hz λh' O' sb=>h _ ?_;have hd:∃o,h'.get? dx=some o:=let⟨o,_,_,e',_⟩:=O'.ns;⟨o,e'⟩;refine I.write (x:=a) (e:=dx) sQ! (.inr ho) (λb q Y z=>(sb.2 b Y).trans z) hd ?_;refine⟨by rw[aY nv.ne];exact ho,?_,nv.ne,O'.obj,_,O'.ns,λg=>?_,λg hg=>?_⟩
 .have:=sH f y fs;omega
 .show Nr ((Kj f y fs).lookup g) sS_;rw[sE];by_cases q:g=f
  .rw[HB q,HB q];exact ry
  .rw[GS q,GS q];exact r g
 .by_cases q:g=f
  .rw[q];exact(rE f y fs).1
  .refine(rE f y fs).2 g (wi g λz=>hg ?_);show sS_=none;rw[GS q];exact z
def Inv.made(I:c!):Inv X O Z (upd (upd H s.heap.objs.size (.own ae_)) ae_ (.ins C s.heap.objs.size []))
  {s with heap:=(eK_).push iL_}:=by
 have e1:(eK_).get? k_=some iL!:=HN s.heap rfl;have e2:((eK_).push iL_).get? ae_=some iL_:=by
  have:=HN eK_ (o:=W.instObj C k_) rfl;rwa[MF]at this
 have e3:(eK_).Ns s.heap.objs.size (λ_=>none):=⟨iL!,#[],_,e1,rfl,(λe he=>absurd he c_),gj_⟩;have I1:=I.laid (a:=k_) (o:=.own ae_) (h':=s.heap.push iL!) (t':=s.toks) sT_ x_ ⟨_,e1⟩;refine I1.laid (a:=k_+1) (o:=.ins C s.heap.objs.size []) (t':=s.toks) sT_ (NC (MF _ _)) ?_;have ne:k_≠k_+1:=II bs_;refine⟨by rw[aY ne,bR],JA _,ne,e2,λ_=>none,(Heap.Ns1.of_empty e3).at λo q=>GQ _ q,λ_=>iQ_,λy hy=>absurd rfl hy⟩
def c4v{prog:z3!}{w:yt!}{e:Expr}{f:Str}{pos:Pos}{s:z2!}{Q:n_}(Y:attributeBase e f env (eval e env)=eval e env)
  (h:wpAny q! A (eval e env) (λo ak=>wpAny q! A (getAttr o f true) Q E ak) E s):wpAny q! A (eval sU! env) Q E s:=
 Attribute_any_ h (by rw[arm_eval_Attribute,Y])
end
def DR(K:z1!)(ta:TE)(f:Str):TE:=λZ H Q=>ta Z H λx H1=>∃a C dx fs v,x=.ref a/\H1 a=some eL!/\Tu K C/\Ed K C f/\fs.lookup f=some v/\Q v H1
def DZ(K:z1!)(ta tv:TE)(f:Str):TS:=λD Z H=>tv Z H λy H1=>ta Z H1 λx H2=>∃a C dx fs,x=.ref a/\H2 a=some eL!/\Tu K C/\Ed K C f/\bn_<1000/\
 D.nx Z (upd H2 a sO_)
section
variable{X:Cx}{o e value:Expr}{f:Str}{pos pos' tpos:Pos}{ta tv:TE}
def c6s(he:PE X e ta)(Y:attributeBase e f X.env ez!=eval e X.env):PE X sU! (DR X.K ta f):=by intro O s Z H Q I h;refine c4v Y (dA cr_ λu s1 ⟨x,H1,I1,rx,a,C,dx,fs,v,ex,ea,c,n,l,q⟩=>?_);subst ex;obtain rfl:u=Value.ref a:=rx;exact a9t I1 ea c n l λu' s2 I2 ru=>⟨v,H1,I2,ru,q⟩
def c6k(ha:mX_)(hv:PE X value tv)(hs:swapsWith value (some (.Attribute o f pos')) pos.line X.env=pure false):PS X (.Assign [.Attribute o f pos'] value pos) (DZ X.K ta tv f):=by intro O s Z H D I h;refine plainObj_wpAny_Assign_Attribute (dA (hv O s Z H _ I h) λu s1 ⟨y,H1,I1,ry,q⟩=>dA (ha O s1 Z H1 _ I1 q) λov s2 ⟨x,H2,I2,rx,a,C,dx,fs,ex,ea,c,n,l,q2⟩=>?_) hs;subst ex;obtain rfl:ov=Value.ref a:=rx;exact a8c I2 ea c n l ry λs3 I3=>⟨Z,_,I3,q2⟩
def c5k{pl:dI_}{m:Str}{aj:Pos}{O:j!}{s:z2!}{Z:St}{H:Hp}{Q:n_}{te:TE}(he:cr!)(I:c!)
  (h:te Z H λx H1=>∃a C dx fs g,x=.ref a/\H1 a=some eL!/\Tu X.K C/\Vl X.K C m g/\fs.lookup m=none/\
   ∀s1,Inv X O Z H1 s1->wpAny e! X.A (callWith pos (.ref g) bd_ sW_ eM!) Q X.xe s1)
  (ht:eval sX! X.env=(do
   let ov <-eval e X.env
   standAt gk!
   let(f,first) <-holding [ov] gk_
   callWith pos f first sW_ eM!)):
  wpAny e! X.A (eval sX! X.env) Q X.xe s:=by
 refine W.methodCall_KW (pl:=pl) (dA cr_ λu s1 ⟨x,H1,I1,rx,a,C,dx,fs,g,ex,ea,c,k,l,q⟩=>?_) ht;subst ex;obtain rfl:u=Value.ref a:=rx;exact nX I1 ea c k l (q s1 I1)
end
end L2
namespace L2
open PySem PySem.Spec PyProof.Rows
structure Ak(k:Nat)(A:xX!):Prop where
 hd:A.handled=none
 dp:A.depth+3*k+5<recursionLimit
 un:A.units+16*k+200<cLine
 gd:A.guards=some []
def Ak.mono{j k:Nat}{A:xX!}(r:gl!)(h:j<=k):Ak j A:=⟨r.hd,by have:=r.dp;omega,by have:=r.un;omega,r.gd⟩
def Ak.deeper{k:Nat}{A:xX!}(r:Ak Q_ A)(env:Env):Ak k (A.deeper env):=
 ⟨r.hd,by have:=r.dp;show A.depth+1+3*k+5<_;omega,by have:=r.un;show A.units+3+16*k+200<_;omega,r.gd⟩
def Ak.in1{k:Nat}{A:xX!}(r:Ak Q_ A):Ak k A.in1:=
 ⟨r.hd,by have:=r.dp;show A.depth+3*k+5<_;omega,by have:=r.un;show A.units+1+16*k+200<_;omega,r.gd⟩
def a9k{A:xX!}{C:xK!}{kw:dJ_}:(iS_).depth=A.depth+1:=by first|rfl|simp[Around.under,Code.weight,Code.isCreation,Code.isGuard,Code.isCaller,Code.frames,Code.isFrame,guardIds]
def a9j{A:xX!}{C:xK!}{kw:dJ_}:(iS_).units=A.units+1:=by first|rfl|simp[Around.under,Code.cUnits,Code.frames,Code.isFrame]
def Ak.make{k:Nat}{A:xX!}(r:Ak Q_ A)(C:xK!)(us:g_)(kw:dJ_):Ak k iS_:=
 ⟨r.hd,by have:=r.dp;rw[a9k];omega,by have:=r.un;rw[a9j];omega,by first|exact r.gd|(simpa[Around.under,Code.guards,Code.isGuard,guardIds,pushGuards]using r.gd)⟩
def Ak.depth{k:Nat}{A:xX!}(r:gl!):A.depth<recursionLimit:=by have:=r.dp;omega
def Ak.units{k:Nat}{A:xX!}(r:gl!):A.units+64<cLine:=by have:=r.un;omega
def Ak.units0{k:Nat}{A:xX!}(r:gl!):A.units<cLine:=by have:=r.un;omega
def Yz:TA:=λ_ H Q=>Q [] H
def AN(ta:TE)(tr:TA):TA:=λZ H Q=>ta Z H λx H1=>tr Z H1 λxs H2=>Q iT! H2
section
variable{X:Cx}{e:Expr}{es:List Expr}{te:TE}{t:TA}{pos:Pos}
def fR:PA X [] Yz:=λ_ _ _ _ H Q I h=>NA ⟨[],H,I,.nil,h⟩
def dD(ha:cr!)(hr:gm_)(hs:am!:=by rfl):PA X aG_ (AN te t):=by intro pos O s Z H Q I h;rw[hs];show wpAny _ _ (spliced (dL!::backTo pos lX!)) _ _ s;refine KP (dA b1_ λu s1 ⟨x,H1,I1,r1,q1⟩=>?_);exact dA (hr pos O s1 Z H1 _ I1 q1) λus s2 ⟨xs,H2,I2,r2,q2⟩=>⟨x::xs,H2,I2,.cons r1 r2,q2⟩
def DH(t:TA):TE:=λZ H Q=>t Z H λxs H1=>i!<=sizeLine/\∀p,H1 p=none->Q c2_ (upd H1 p bJ!)
def DO(t:TA):TE:=λZ H Q=>t Z H λxs H1=>i!<=sizeLine/\∀p,H1 p=none->Q c2_ (upd H1 p N!)
def b7f {x1}(h:gm_):PE X s0! (DH t):=by intro O s Z H Q I hq;refine wpAny_Tuple_spliced s0_;have hf:H1 A_=none:=I1.hok.fresh x_;refine⟨.ref A_,upd H1 s1.heap.objs.size bJ!,s1!,rfl,q _ hf⟩;exact⟨z,us,r,⟨_,dE!,rfl,_,rfl⟩⟩
def a1a(h:gm_):PE X m1_ (DO t):=by intro O s Z H Q I hq;refine wpAny_List_spliced s0_;have hf:H1 A_=none:=I1.hok.fresh x_;refine⟨.ref A_,upd H1 s1.heap.objs.size N!,s1!,rfl,q _ hf⟩;exact⟨z,us,0,r,dE!⟩
end
abbrev Sp:=List V->Hp->VK->XK->Prop
abbrev Va:=List Env->Hp->Shared->XK->Value->Shared->Prop
structure Qu(P:z3!)(w:yt!)(K:z1!)(mg:y_)(base:Heap)(A:xX!)(outer:V_)(s:z2!)(H:Hp):Prop where
 frames:A.frames=some outer
 mod:Mod K mg base
 bs:∀b o,base.get? b=some o->s.heap.get? b=some o/\H b=none
 bsz:base.objs.size<=k_
 funs:s.heap.FunFrames base outer
 frf:∀b∈frs outer,H b=none
 hok:Lm P w H s.heap
 bare:AllBare s.gens
def CE(outer:V_)(P:z3!)(w:yt!)(H:Hp)(s:z2!)(Q:VK)(u:ys!)(s':z2!):Prop:=
 ∃v H',s'.os=s.os/\AllBare s'.gens/\Un (frs outer) [] H H' s.heap s'.heap/\Lm P w H' s'.heap/\Bp v u/\Q v H'
def CR(CX:Va)(outer:V_)(P:z3!)(w:yt!)(H:Hp)(s:z2!)(Q:VK)(E:XK)(r:Result)(s':z2!):Prop:=
 match r with
 |.ok (.ret u)=>CE outer P w H s Q u s'
 |.ok _=>False
 |.error e=>CX outer H s E e s'
structure Fe(P:z3!)(w:yt!)(K:z1!)(mg:y_)(base:Heap)(CX:Va)(k:Nat)(f:xK!)(fd:FuncData)(ps:n!)(sp:Sp):Prop where
 len:∀vs H Q E,sp vs H Q E->bd!=T!
 run:∀(A:xX!) (outer:V_) (s:z2!) (H:Hp) (args:Args) (us:g_) (vs:k!) (Q:VK) (E:XK),Ak k A->Qu P w K mg base A outer s H->BindsTo s fd args c3_->Ba vs us->sp vs H Q E->
  codeAny J_ A (.call ah! args) (CR CX outer P w H s Q E) s
def Fe.mono{P:z3!}{w:yt!}{K:z1!}{mg:y_}{base:Heap}{CX:Va}{j k:Nat}{f:xK!}{fd:FuncData}{ps:n!}{sp:Sp}(F:Fe P w K mg base CX j f fd ps sp)(h:j<=k):
  Fe P w K mg base CX k f fd ps sp:=⟨F.len,λA outer s H args us vs Q E hr=>F.run A outer s H args us vs Q E (hr.mono h)⟩
def Fe.imp{P:z3!}{w:yt!}{K:z1!}{mg:y_}{base:Heap}{CX:Va}{k:Nat}{f:xK!}{fd:FuncData}{ps:n!}{sp TL:Sp}(F:Fe P w K mg base CX k f fd ps sp)
  (h:∀vs H Q E,TL vs H Q E->sp vs H Q E):Fe P w K mg base CX k f fd ps TL:=
 ⟨λvs H Q E q=>F.len vs H Q E (h _ _ _ _ q),λA outer s H args us vs Q E hr he Y hv hs=>F.run A outer s H args us vs Q E hr he Y hv (h _ _ _ _ hs)⟩
def Qu.make{P:z3!}{w:yt!}{K:z1!}{mg:y_}{base:Heap}{A:xX!}{outer:V_}{s:z2!}{H:Hp}(e:m2!)(C:xK!)(us:g_)(kw:dJ_):
  Qu P w K mg base iS_ outer s H:=⟨by first|exact e.frames|(simpa[Around.under,Code.envs,Code.isFrame,pushEnvs]using e.frames),e.mod,e.bs,e.bsz,e.funs,e.frf,e.hok,e.bare⟩
def Qu.in1{P:z3!}{w:yt!}{K:z1!}{mg:y_}{base:Heap}{A:xX!}{outer:V_}{s:z2!}{H:Hp}(e:m2!):
  Qu P w K mg base A.in1 outer s H:=⟨e.frames,e.mod,e.bs,e.bsz,e.funs,e.frf,e.hok,e.bare⟩
section
variable{X:Cx}{O:List (Addr×Obj)}{Z:St}{H:Hp}{s s':z2!}
def Inv.env0(I:c!):Qu X.prog X.w X.K X.mg X.base X.A X.stack s H:=
 ⟨I.ok.frames,I.ok.mod,I.bs,IE I.ok.bsz I.sz,I.stack,I.stkFree,I.hok,I.bare⟩
def Inv.after{Q:VK}{u:ys!}(I:c!)(h:CE X.stack X.prog X.w H s Q u s'):EP X O Z Q u s':=by obtain⟨v,H',os,bare,un,hok,r,q⟩:=h;obtain⟨hh,g,d,t,io⟩:=s';obtain rfl:io=s.os:=os;exact⟨v,H',I.call (h':=hh) (g':=g) (d':=d) (t':=t) (ch:=[]) un hok bare s4_,r,q⟩
end
def AO(sp:Sp)(dvs:k!)(E:XK)(t:TA):TE:=λZ H Q=>t Z H λvs H1=>sp c4_ H1 Q E
def Yd(C:xK!)(m:Str)(sp:Sp)(dvs:k!)(E:XK)(ta:TE)(t:TA):TE:=λZ H Q=>ta Z H λx H1=>∃a dx fs,x=.ref a/\H1 a=some eL!/\fs.lookup m=none/\
 t Z H1 λvs H2=>sp (x::c4_) H2 Q E
def Ye(C:xK!)(sp:Sp)(dvs:k!)(E:XK)(t:TA):TE:=λZ H Q=>t Z H λvs H1=>∀x dx,H1 x=none->H1 dx=none->dx≠x->
 sp (.ref x::c4_) m3_ s5! E
def Eu(K:z1!)(fd:FuncData)(ps:n!)(ds:g_):Prop:=
 ∀(s:z2!) (us:g_),K.In s.heap->(eO_).length=T!->BindsTo s fd c5! (ps.zip eO_)
def Eu.all{K:z1!}{fd:FuncData}{ps:n!}(h:∀us:List Value,as!=T!->bindArgs fd c5!=pure c3_):Eu K fd ps []:=λs us _ hl=>by
 rw[HV]at hl ⊢;exact .of_eq (h us hl)
def Ju(CX:Va)(X:Cx)(E:XK):Prop:=∀(O:j!) (Z:St) (H:Hp) (s:z2!) (e:ys!) (s':z2!),Inv X O Z H s->CX X.stack H s E e s'->X.xe e s'
section
variable{X:Cx}{CX:Va}{k:Nat}{f C:xK!}{fd:FuncData}{ps:List Str}{sp:Sp}{dvs:List V}{ds:List Value}{E:XK}{x m:Str}{p pos aj:Pos}{e o:Expr}{es:List Expr}{ta:TE}{t:TA}
def a0x{O:j!}{Z:St}{H:Hp}{s:z2!}{Q:VK}(F:dM!)(hr:bv!)(Y:dM_)(hd:dN!)(hx:dN_)
  (I:c!)(r:ey_)(h:sp c4_ H Q E):wpAny e! X.A (call ah! us) aG! X.xe s:=by
 have r2:Ba c4_ eO_:=r.append hd;have hl:(eO_).length=T!:=by rw[<-r2.length];exact F.len _ _ _ _ h
 refine wpAny_call (OQ (F.run X.A X.stack s H c5! eO_ c4_ Q E hr I.env0 (Y s us I.kIn hl) r2 h) λr s' hq=>?_);cases r with
 |error e=>exact hx O Z H s e s' I hq
 |ok fl=>
  cases fl with
  |ret u=>exact I.after hq
  |next=>exact False.elim hq
  |brk=>exact False.elim hq
  |cont=>exact False.elim hq
def a1b(F:dM!)(hr:bv!)(hg:M_)(hm:X.mg x=some ah!)(hk:W.keepIn X.K ah!=true)(Y:dM_)(hd:dN!)(hx:dN_)
  (ha:eQ!)(av:B_:=by decide)(he:am!:=by rfl)(ax:aQ!:=by rfl):
  PE X be_ (AO sp dvs E t):=by
 show"!G";refine LM m4!;refine W.callWith_K (h₀:=X.base) I.ok.mod.kin hk s7! he ax;exact a0x F hr Y hd hx I1 r q
def c2j{pl:dI_}(he:mX_)(c:dK!)(hm:Vl X.K C m f)(F:dM!)(hr:bv!)(Y:dM_)(hd:dN!)(hx:dN_)(ha:eQ!)
  (hst:am!:=by rfl)(ax:aQ!:=by rfl)
  (ht:eval iX! X.env=(do
   let ov <-eval o X.env
   standAt gk!
   let(f,first) <-holding [ov] gk_
   callWith pos f first s8_ eM!):=by rfl):
  PE X iX! (Yd C m sp dvs E ta t):=by
 show"!<";refine W.callWith_K (first:=bd_) (h₀:=X.base) I.ok.mod.kin hm.kp (dA (ha pos O s1 Z H1 _ I1 q) λus s2 ⟨vs,H2,I2,r,q2⟩=>ta!) hst ax;exact a0x (us:=.ref a::us) (vs:=.ref a::vs) F hr Y hd hx I2 (.cons rfl r) q2
def b7k{pl:dI_}(he:mX_)(c:dK!)(hm:Vl X.K C m f)(F:dM!)(hr:bv!)(Y:dM_)(hd:dN!)(hx:dN_)
  (ht:eval iX_ X.env=(do
   let ov <-eval o X.env
   standAt gk!
   let(f,first) <-holding [ov] gk_
   callWith pos f first m5! eM!):=by rfl):
  PE X iX_ (Yd C m sp dvs E ta Yz):=by
 show"!<";exact W.callWith_K0 (first:=bd_) I1.kIn hm.kp (a0x (us:=bd_) (vs:=bd_) F hr Y hd hx I1 tc! q)
structure Mk(K:z1!)(C f:xK!):Prop where
 makes:W.makesIn K C=true
 init:W.findIn K ab_ "__init__"=some eK!
 fn:W.isFn K ah!=true
 kp:W.keepIn K ab_=true
def a4s{O:j!}{Z:St}{H:Hp}{s:z2!}{Q:VK}(M:m5_)(F:dM!)(hr:gq_)(Y:dM_)(hd:dN!)
  (hx:dN_)(I:c!)(r:ey_)
  (h:∀x dx,H x=none->H dx=none->dx≠x->sp (.ref x::c4_) (upd (upd H dx hV_) x m3!) s5! E):
  wpAny e! X.A (call ab_ us) aG! X.xe s:=by
 have hq:=h ae_ s.heap.objs.size td! iY! (II bs_);have I2:=Inv.made (C:=C) I;have r2:Ba (V.ref ae_::c4_) td_:=.cons rfl (r.append hd);have hl:(Value.ref ae_::us++ds).length=T!:=by
  have e:=r2.length;rw[F.len _ _ _ _ hq]at e;exact e.symm
 refine wpAny_call (b8s (f:=f) I.kIn M.makes M.init (MH.mp M.fn) (OQ (F.run _ X.stack _ _ ⟨Value.ref ae_::us,[]⟩ td_ _ _ E (hr.make C us [])
  (I2.env0.make C us []) (Y _ (Value.ref ae_::us) I2.kIn hl) r2 hq) λr s' bg=>?_))
 cases r with
 |error e=>exact hx O Z _ _ e s' I2 bg
 |ok fl=>
  cases fl with
  |ret u=>
   obtain⟨v,H',I3,rv,ev,q3⟩:=I2.after bg;subst ev;exact⟨rv,⟨V.ref ae_,H',I3,rfl,q3⟩⟩
  |next=>exact False.elim bg
  |brk=>exact False.elim bg
  |cont=>exact False.elim bg
def c2k(M:m5_)(F:dM!)(hr:gq_)(hg:M_)(hm:gr!)(Y:dM_)(hd:dN!)(hx:dN_)
  (ha:eQ!)(av:B_:=by decide)(he:am!:=by rfl)(ax:aQ!:=by rfl):
  PE X be_ (Ye C sp dvs E t):=by
 show"!G";refine LM m4!;refine W.callWith_K (h₀:=X.base) I.ok.mod.kin M.kp s7! he ax;exact a4s M F hr Y hd hx I1 r q
def b7l(M:m5_)(F:dM!)(hr:gq_)(hg:M_)(hm:gr!)(Y:dM_)(hd:dN!)(hx:dN_)
  (av:B_:=by decide):PE X tf! (Ye C sp dvs E Yz):=by
 show"!G";refine LM m4!;exact W.callWith_K0 I.kIn M.kp (a4s (us:=[]) M F hr Y hd hx I .nil h)
end
structure Aj(N P:n!)(sc:Scope):Prop where
 kind:sc.kind=.function
 co:sc.isCoroutine=false
 gen:sc.isGenerator=false
 nd:N.Nodup
 pre:N.take P.length=P
 par:∀x∈P,sc.names.lookup x=some .local\/sc.names.lookup x=some .cell
 nofree:∀y∈sc.names,y.2≠.free
def a0b{kindOf:iZ_}{x:Str}:∀{binds:dJ_} {m:y_},tg_->bindL kindOf binds m x=m x
 |[],_,_=>rfl
 |(n,v)::r,m,h=>by
  unfold bindL;rw[a0b λw hw=>h w (GP _ hw)];split
  .have:x≠n:=by rintro rfl;exact h v GX
   simp[this]
  .rfl
def a0d{kindOf:iZ_}{x:Str}:∀{binds:dJ_} {m:y_},tg_->bindC kindOf binds m x=m x
 |[],_,_=>rfl
 |(n,v)::r,m,h=>by
  unfold bindC;rw[a0d λw hw=>h w (GP _ hw)];split
  .rfl
  .have:x≠n:=by rintro rfl;exact h v GX
   simp[this]
def a0c{kindOf:iZ_}{x:Str}{v:ys!}:∀{P:n!} {vs:g_} {i:Nat} {m:y_},P.Nodup->P[i]?=some x->vs[i]?=some v->kindOf x=some .local->
  bindL kindOf (P.zip vs) m x=some v
 |[],_,_,_,_,h,_,_=>by simp at h
 |_::_,[],_,_,_,_,h,_=>by simp at h
 |p::P,w::vs,0,m,nd,B,J,hk=>by
  simp at B J;subst B;subst J;show bindL kindOf i0! m p=_;unfold bindL;rw[a0b λv hv=>(i0_).1 (QX hv).1,a0_];simp
 |p::P,w::vs,i+1,m,nd,B,J,hk=>by
  show bindL kindOf i0! m x=_;unfold bindL;exact a0c (i:=i) (i0_).2 ti_ tj! hk
def a0e{kindOf:iZ_}{x:Str}{v:ys!}:∀{P:n!} {vs:g_} {i:Nat} {m:y_},P.Nodup->P[i]?=some x->vs[i]?=some v->kindOf x≠some .local->
  bindC kindOf (P.zip vs) m x=some v
 |[],_,_,_,_,h,_,_=>by simp at h
 |_::_,[],_,_,_,_,h,_=>by simp at h
 |p::P,w::vs,0,m,nd,B,J,hk=>by
  simp at B J;subst B;subst J;show bindC kindOf i0! m p=_;unfold bindC;rw[a0d λv hv=>(i0_).1 (QX hv).1,aB_];simp
 |p::P,w::vs,i+1,m,nd,B,J,hk=>by
  show bindC kindOf i0! m x=_;unfold bindC;exact a0e (i:=i) (i0_).2 ti_ tj! hk
def Md(N:n!)(vs:k!):St:=vs.map some++List.replicate (i1! - bd!) none
def Js(CX:Va)(P:z3!)(w:yt!)(K:z1!)(mg:y_)(base:Heap)(N:n!)(qual:Str)(scope:Scope)(f:xK!)(cd:ys!)(A:xX!)(outer:V_)(s:z2!)(H:Hp)(E:XK):Cx where
 prog:=P
 w:=w
 K:=K
 mg:=mg
 base:=base
 A:=A.deeper gr_
 N:=N
 s₀:=s
 H₀:=H
 env:=envOfC qual scope s.heap.objs.size f cd
 outer:=outer
 stack:=envOfC qual scope s.heap.objs.size f cd::outer
 ex:=[]
 calm:=true
 fn:=λ_=>true
 pn:=[]
 xe:=λe s'=>wpAny J_ (A.deeper gr_) (leaving gr_ e) (λ_ yp=>CX outer H s E e yp) (λe' yp=>CX outer H s E e' yp) s'
def a7m{sc:Scope}{n:Nat}{x:Str}(h:sc.names.lookup x=some .cell):∃c,(cellsFrom n sc.names []).lookup x=some c:=by have q:=W.cellsFrom_some sc.names n [] ig_;exact OM.mp q
def b4q{CX:Va}{P:z3!}{w:yt!}{K:z1!}{mg:y_}{base:Heap}{ps:n!}{scope:Scope}{f:xK!}{A:xX!}{outer:V_}{s:z2!}{H:Hp}{E:XK}{vs:k!}
  (S:Aj N ps scope)(hd:eR!)(e0:m2!)(hl:bd!=T!)(r:ey_)
  (x:InCallC s s.heap.objs.size (bindL (gr_).kindOf c3_ λ_=>none) tl! (bindC (gr_).kindOf c3_ λ_=>none) s1):
  Inv tl_ [] gs_ H s1:=by
 have ax:T!<=i1!:=by have:=congrArg List.length S.pre;rw[OV]at this;omega
 obtain⟨B,tk,rfl,hk⟩:=x.done;have tz:∀b:Addr,b∉(tl_).ex:=λb z=>absurd tm! c_;refine⟨⟨e0.mod,S.kind,rfl,rfl,HL _,λy z c B J=>?_,λy hy=>?_,λy c _ h=>?_,λ_=>hd,Around.frames_deeper e0.frames,.inr bL_,tn_,e0.bs,e0.bsz,λb _ _=>tz b,tn_,e0.funs,e0.frf⟩,
  rfl,e0.bare,Un.kept hk,⟨_,x.toInCall.ns,λi y v B J h3=>?_⟩,λy c h=>⟨_,x.cell y c h⟩,e0.hok.fresh x_,λy c h=>?_,λp hp=>absurd (show p∈([]:List et_)from hp) c_,e0.hok.kept hk,?_⟩
 .exact name_of_addr x.apart (KS B) (KS J)
 .have hy:scope.names.lookup y=some .cell\/scope.names.lookup y=some .free:=hy;obtain hy|hy:=hy
  .exact a7m hy
  .exact absurd rfl (S.nofree _ (KS hy))
 .exact LY tq_
 .have hi:i<bd!:=by
   unfold Md at J;by_cases hi:i<bd!
   .exact hi
   .rw[eR_]at J;rw[KM]at J;split at J<;>cases J
  have ha:vs[i]?=some v:=by
   unfold Md at J;rw[JQ gu!,IB]at J;cases e:vs[i]? with
   |none=>rw[e]at J;cases J
   |some a=>rw[e]at J;cases J;rfl
  obtain⟨u,hu,rv⟩:=r.get ha;have hp:ps[i]?=some y:=by
   rw[<-S.pre,List.getElem?_take_of_lt a!];exact B
  have TM:ps.Nodup:=by rw[<-S.pre];exact S.nd.sublist (List.take_sublist _ _)
  refine⟨u,rv,?_⟩;obtain k|k:=S.par y (MU hp)
  .exact .inl ⟨k,a0c TM hp hu k⟩
  .obtain⟨c,e⟩:=a7m (n:=k_+1) k;refine .inr ⟨.inl k,c,e,?_⟩;have q:=x.cell y c e;rw[a0e TM hp hu (by show scope.names.lookup y≠_;rw[k];decide)]at q;exact q
 .exact e0.hok.fresh (LY tq_)
 .unfold Md;show _=i1!;rw[HE,HG,LF];omega
def c5p{CX:Va}{P:z3!}{w:yt!}{K:z1!}{mg:y_}{base:Heap}{k:Nat}{f:xK!}{name:Str}{params:Arguments}{body:bp!}{kV:ys!}{an od:aJ_}
  {dr:bP!}{ps:n!}{sp:Sp}(lk:K.lookup f=some ⟨oc,od,.func ts!,dr⟩)(bv:i2_)(S:Aj N ps scope)
  (len:tt_)
  (ql:∀(A:xX!) (outer:V_) (s:z2!) (H:Hp) (vs:k!) (Q:VK) (E:XK),Ak k (A.deeper (envOfC qual scope s.heap.objs.size f af))->sp vs H Q E->
   ∃t,Ov nb_ body t/\t {nx:=λ_ H'=>Q .non H',rt:=Q} gs_ H):
  Fe P w K mg base CX Q_ f ts! ps sp:=by
 refine⟨len,λA outer s H args us vs Q E hr e0 Y r jj=>?_⟩;have hl:=len _ _ _ _ jj;have KX:K.In s.heap:=e0.mod.kin.keeps λb o e=>(e0.bs b o e).1;have bp:s.heap.NoLimit:=e0.mod.nolimit.keeps λb o e=>(e0.bs b o e).1;have cj:∀y∈ps.zip us,scope.names.lookup y.1=some .local\/(scope.names.lookup y.1=some .cell/\((tl!).lookup y.1).isSome=true):=λ⟨n,v⟩ hy=>by
  obtain q|q:=S.par n (QX hy).1
  .exact .inl q
  .exact .inr ⟨q,W.cellsFrom_some _ _ _ (.inl q)⟩
 refine codeAny_call_function hr.depth (KX _ _ lk) rfl S.co S.gen rfl (W.codeRec_of KX bv) (Y _ _ _ _ ?_);refine wpAny_newFunctionEnv_cells S.kind cj λenv he s1 x=>?_;subst he;refine⟨bp.keeps x.toInCall.keep,codeAny_func ?_⟩;obtain⟨t,ht,hq⟩:=ql A outer s H vs Q E (hr.deeper _) jj;have I:Inv nb_ [] gs_ H s1:=b4q S hr.hd e0 hl r x;refine JH (ht [] s1 gs_ H _ I hq) (λfl s' hs=>?_) λe s' hs=>hs;have fin:∀{h2:St} {H':Hp} {v:V} {u:ys!},Inv nb_ [] h2 H' s'->Bp v u->Q v H'->CE outer P w H s Q u s':=
  λ{h2 H' v u} ac rv q=>⟨v,H',ac.os,ac.bare,ac.base,ac.hok,rv,q⟩
 cases fl with
 |ret u=>
  obtain⟨v,h2,H',ac,rv,q⟩:=hs;exact fin ac rv q
 |next=>
  obtain⟨h2,H',ac,q⟩:=hs;exact fin (v:=V.non) (u:=co_) ac rfl q
 |brk=>
  obtain⟨_,_,_,q⟩:=hs;exact False.elim q
 |cont=>
  obtain⟨_,_,_,q⟩:=hs;exact False.elim q
end L2
namespace L2
open PySem PySem.Spec PyProof.Rows
section
variable{X:Cx}{x:Str}{p pos:Pos}{e:Expr}{es:List Expr}{t:TA}{id T:String}{r:List V->Hp->VK->Prop}
def FB(r:cZ!)(t:TA):TE:=λZ H Q=>t Z H λvs H1=>r vs H1 Q
def oQ(hc:nc_)(hg:M_)(hm:cV!)(hv:nd!)(ha:eQ!)(hn:cV_:=by decide)(av:B_:=by decide)
  (he:am!:=by rfl)(ax:aQ!:=by rfl):PE X be_ (FB r t):=by
 show"!G";refine LM tA_;exact PyProof.Rows.callWith_builtin1 tA! he ax
def b3s(hc:Ip X dP! r)(hg:M_)(hm:cV!)(hv:nd_)(ha:eQ!)(hn:cV_:=by decide)(av:B_:=by decide)
  (he:am!:=by rfl)(ax:aQ!:=by rfl):PE X be_ (FB r t):=by
 show"!G";refine LM tA_;exact JV tA! he ax
end
end L2
namespace HT
open PySem PyProof.Rows
nonrec def lexLt:List Int->List Int->Bool
 |[],[]=>false
 |[],_::_=>true
 |_::_,[]=>false
 |x::xs,y::ys=>if x=y then lexLt xs ys else decide (x<y)
def lexLt_cons(x y:Int)(xs ys:z!):lexLt iT! (y::ys)=if x=y then lexLt xs ys else decide (x<y):=rfl
def lexLt_nil_nil:lexLt [] []=false:=rfl
def vR(y:Int)(ys:z!):lexLt [] (y::ys)=true:=rfl
def vS(x:Int)(xs:z!):lexLt iT! []=false:=rfl
def b9w(A:xX!)(s:z2!)(a:Int)(t:Tok)(c:Int)(u:Tok):∃e,SeqAt.EqAt A s gv! ne! e/\(e=true↔a=c):=
 ⟨(a==c),OT a t c u,F!⟩
section
open PySem.SeqAt
open PySem.AutoSeq1 (wpAny_loadPart')
open PySem.MeetsSeq PySem.MeetsSeq2 PySem.MeetsSeq3
end
section
variable{prog:z3!}{w:yt!}{A:xX!}{E:Value->Shared->Prop}{s:z2!}
def cat_tup{t b:xK!}{vs ws:g_}{Q:n_}(ht:IsTup s.heap t cv!)(Y:IsTup s.heap b ws.toArray)(hv:vs≠[])
  (B:ws=[]->Q i3_ s)(J:ws≠[]->Q dF! {s with heap:=s.heap.push {cls:=.type "tuple",data:=.seq (vs++ws).toArray}})
  (hsz:bd!+nf!<=sizeLine):wpAny q! A (binaryOp .Add i3_ dP_) Q E s:=by
 obtain⟨⟨cls,dd,data,sl⟩,ho,hc,n,hd⟩:=id ht;obtain⟨⟨TN,mi,data2,gc⟩,jk,jl,n2,jm⟩:=id Y;simp only at hc hd jl jm;subst hc hd jl jm;have e:cv!++ws.toArray=(vs++ws).toArray:=by simp
 by_cases hw:ws=[]
 .exact concat_meets i4! i4_ noFill_tuple_add seq_tuple_add OZ OP (OL _ _)
   (tuple_addW1 t b vs.toArray ws.toArray n n2 dd mi sl gc i5! (by simp[hw])) ⟨ho,jk,B hw⟩
 .refine concat_meets i4! i4_ noFill_tuple_add seq_tuple_add OZ OP (OL _ _)
   (tuple_addW2 t b vs.toArray ws.toArray n n2 dd mi sl gc i5! nf_ (by rw[GW,GW];exact hsz)) ⟨ho,jk,?_⟩
  rw[e];exact J hw
nonrec def sIx(n d:Nat):Option Int->Nat
 |none=>d
 |some v=>if v<0 then(ng!).toNat else min v.toNat n
def sIx_none(n d:Nat):sIx n d none=d:=rfl
def sIx_nat(n d k:Nat):sIx n d (some (k:Int))=min k n:=by show(if(k:Int)<0 then((k:Int)+(n:Int)).toNat else min (k:Int).toNat n)=min k n;rw[GS a!,LP]
def c6e(n d:Nat)(hd:d<=n)(o:a2_):sIx n d o<=n:=by
 cases o with
 |none=>exact hd
 |some v=>
  show tF_<=n;by_cases hv:v<0
  .rw[HB hv];omega
  .rw[GS hv];exact Nat.min_le_right _ _
def b2q(v:Int)(n d:Nat):tH!=((sIx n d ba_:Nat):Int):=by
 show tH!=((tF_:Nat):Int);by_cases hv:v<0
 .simp only[HB hv];omega
 .simp only[GS hv];omega
def b0i(lo hi:a2_)(n:Nat):Builtin.Slice.sliceAdjust lo hi 1 (n:Int)=(i6!,tI!):=by
 have B:¬((1:Int)<0):=by omega
 unfold Builtin.Slice.sliceAdjust;simp only[B,IN];refine Prod.ext ?_ ?_
 .cases lo with
  |none=>rfl
  |some v=>exact b2q v n 0
 .cases hi with
  |none=>rfl
  |some v=>exact b2q v n n
def a8r(i j:Nat):Builtin.Slice.slicePlaces (i:Int) (j:Int) 1=j - i:=by
 unfold Builtin.Slice.slicePlaces;have B:(1:Int)>0:=by omega
 simp only[B,IU,Int.ediv_one];split<;>omega
def uL{v:ys!}{o:a2_}{Q:Option Int->Shared->Prop}(p:IsPart v o)(h:Q o s):wpAny q! A (Builtin.Slice.slicePartIndex v) Q E s:=by
 cases p with
 |none=>exact slicePart_none h
 |int i t=>exact slicePart_int h
def qG{lo hi:a2_}{n:Nat}{Q:Int×Int×Nat->Shared->Prop}(hs:tI_)(pl:IsPart vl lo)(pu:IsPart vu hi)
  (h:Q (i6!,1,sIx n n hi - sIx n 0 lo) s):wpAny q! A (Builtin.Slice.sliceApplied i6_ (pure (n:Int))) Q E s:=by
 obtain⟨os,ny,qm,wc⟩:=id hs;unfold Builtin.Slice.sliceApplied Builtin.Slice.sliceFields;refine GM (GM (JK ny wc (x:=vl) rfl (GM (JK ny wc (x:=vu) rfl (GM (JK ny wc (x:=.none) rfl X!))))));refine GM (slicePart_none ?_);show wpAny _ _ (if((1:Int)==0)=true then _ else _) _ _ s;rw[GS d!];refine GM (uL pl (GM (uL pu (GM X!))));show wpAny _ _ (match Builtin.Slice.sliceAdjust lo hi 1 (n:Int)with|(lo,hi)=>pure (lo,(1:Int),Builtin.Slice.slicePlaces lo hi 1)) _ _ s;rw[b0i lo hi n];show wpAny _ _ (pure (i6!,(1:Int),Builtin.Slice.slicePlaces i6! tI! 1)) _ _ s;rw[a8r];exact GO h
def b6z(xs:aa_)(i k:Nat):((List.range k).filterMap λ(m:Nat)=>xs[(nh!).toNat]?).toArray=((xs.toList.drop i).take k).toArray:=by
 have e:(λ(m:Nat)=>xs[(nh!).toNat]?)=λm=>xs[i+m]?:=by
  funext m;have:(nh!).toNat=i+m:=by omega
  rw[this]
 rw[e];have:=pick_run xs i k;rw[List.filterMap_map]at this;have e2:((λx=>xs[x]?)∘λx=>i+x)=λm=>xs[i+m]?:=rfl;rw[e2]at this;rw[this]
def getItem_tuple_cut{t:xK!}{items:aa_}{lo hi:a2_}{Q:n_}(ht:IsTup s.heap t items)(hs:tI_)(pl:IsPart vl lo)(pu:IsPart vu hi)
  (hw:¬(sIx items.size 0 lo=0/\sIx items.size items.size hi=c7!))
  (h:Q dF! {s with heap:=s.heap.push {cls:=.type "tuple",data:=.seq (ni!).toArray}})
  (hsz:c7!<=sizeLine):wpAny q! A (getItem i3_ i6_) Q E s:=by
 have we:sizeOk (.seq (ni!).toArray):=by
  show(ni!).toArray.size<=sizeLine;rw[GW,OV,OX,JB];omega
 have hj:sIx items.size items.size hi<=c7!:=c6e _ _ x_ hi;obtain⟨os,ny,qm,wc⟩:=id hs;have X9:s.TypeIs i6_ "slice":=⟨os,ny,qm⟩;unfold getItem
 try with_reducible refine IT ?_
 first|refine GM X!|skip
 refine GM (wpAny_sequenceKey ht.typeIs d! ?_);refine GM (JF (name:=tN_) ht.typeIs NN
  (IP NN ht.typeIs entry_tuple_getitem ?_ (args_tuple_getitem _ _)))
 show wpAny _ _ (Builtin.Tuple.tupleItemsOf i3_>>=_) _ _ s;refine GM (tupleItemsOf_ ht ?_);refine GM (wpAny_typeOf X9 ?_);rw[HB d!];refine GM (qG hs pl pu ?_);have YA:¬(tO_=true):=by
  intro q;rw[HZ,HZ]at q;have q1:tO!=0:=eq_of_beq q.1.1;have q2:sIx items.size items.size hi - sIx items.size 0 lo=c7!:=eq_of_beq q.2;exact hw ⟨u!,u!⟩
 show wpAny _ _ (if tO_=true then _ else _) _ _ s;rw[GS YA,b6z]
 first
  |exact GM (m:=i8!) (JN i8_ we)
  |exact GM (m:=i8!) (JN (GM (GO i8_)) we)
  |exact GM (GM (m:=i8!) (JN (GO i8_) we))
  |exact GM (GM (m:=i8!) (JN i8_ we))
end
end HT
namespace L2
open PySem PySem.Spec PyProof.Rows
abbrev TO:=St->Hp->(Option Int->Hp->Prop)->Prop
def PO(X:Cx)(e:Option Expr)(t:TO):Prop:=
 ∀(O:j!) (s:z2!) (Z:St) (H:Hp) (Q:tR_),Inv X O Z H s->t Z H Q->
  wpAny e! X.A (evalPart e X.env) (λu s'=>∃o H',Inv X O Z H' s'/\IsPart u o/\Q o H') X.xe s
def Xd:TO:=λ_ H Q=>Q none H
def AJ(t:TE):TO:=λZ H Q=>t Z H λx H1=>∃i,x=.int i/\Q (some i) H1
def wI{ns:z!}:∀{us:g_},Ba b9! us->IntsAre us ns:=by
 induction ns with
 |nil=>intro us r;rw[MC]at r;cases r;exact .nil
 |cons n ns ih=>
  intro us r;rw[GY]at r;cases r with
  |cons r1 r2=>
   obtain⟨t,e⟩:=r1;subst e;exact .cons n t (ih r2)
section
variable{X:Cx}{e:Expr}{te:TE}{lo hi:Option Expr}{tl th:TO}{pos p2:Pos}
def c2f:PO X none Xd:=by intro O s Z H Q I h;rw[evalPart_none];exact GO ⟨none,H,I,.none,h⟩
def c2e(h:cr!):PO X ij_ (AJ te):=by intro O s Z H Q I hw;rw[evalPart_some];refine dA l1_ λu s1 ⟨x,H1,I1,r1,q1⟩=>?_;obtain⟨i,rfl,q⟩:=q1;obtain⟨t,rfl⟩:=r1;exact⟨K_,H1,I1,.int i t,q⟩
def Ys(X:Cx)(r:i9!):Prop:=
 ∀(O:j!) (s:z2!) (Z:St) (H:Hp) (x:V) (v vl vu:ys!) (lo hi:a2_) (sl:xK!) (Q:VK),Inv X O Z H s->Bp x v->s.heap.IsSliceOf sl vl vu .none->IsPart vl lo->IsPart vu hi->r x lo hi H Q->
  ∃T id,typeLookup dP! "__getitem__"=pure (some eS_)/\s.TypeIs v T/\wpAny e! X.A (getItem v i6_) aG! X.xe s
def Ys.or{r r':i9!}(h:Ys X r)(h':Ys X r'):Ys X (λx lo hi H Q=>r x lo hi H Q\/r' x lo hi H Q):=by
 intro O s Z H x v vl vu lo hi sl Q I rx hs pl pu q;obtain q|q:=q
 .exact h O s Z H x v vl vu lo hi sl Q I rx hs pl pu q
 .exact h' O s Z H x v vl vu lo hi sl Q I rx hs pl pu q
def FV(r:i9!)(te:TE)(tl th:TO):TE:=λZ H Q=>te Z H λx H1=>tl Z H1 λl H2=>th Z H2 λu H3=>r x l u H3 Q
def b7g{r:i9!}(hr:Ys X r)(he:cr!)(hl:PO X lo tl)(hu:PO X hi th):PE X (.Subscript e nk! pos) (FV r te tl th):=by intro O s Z H Q I h;refine Subscript_ rN!;refine wpAny_Slice (dA (hl O s1 Z H1 _ I1 q1) λvl s2 ⟨l,H2,I2,pl,q2⟩=>dA (hu O s2 Z H2 _ I2 q2) λvu s3 ⟨u,H3,I3,pu,q3⟩=>?_);rw[evalPart_none];refine GO ?_;have I4:Inv X O Z H3 {s3 with heap:=s3.heap.push {cls:=.type "slice",data:=.fields #[vl,vu,.none]}}:=I3.kept (t':=s3.toks) λb ob q=>GQ _ q;obtain⟨T,id,hT,ht,hg⟩:=hr O {s3 with heap:=s3.heap.push {cls:=.type "slice",data:=.fields #[vl,vu,.none]}} Z H3 x v vl vu l u s3.heap.objs.size Q I4 r1 (Heap.IsSliceOf.new ..) pl pu q3;show wpAny e! X.A (subscriptTail e nk! v (.ref tU_)) aG! X.xe {s3 with heap:=s3.heap.push {cls:=.type "slice",data:=.fields #[vl,vu,.none]}};exact tail_any (ops:=[.ref tU_,v]) ht hT hg (by with_unfolding_all rfl)
def Tn(xs:k!)(lo hi:a2_):List V:=(xs.drop nk_).take nl!
def sS(xs:k!)(lo hi:a2_):(gx!).length<=i!:=by unfold Tn;rw[OV,OX];omega
def EA(K:z1!):V->Option Int->Option Int->Hp->VK->Prop:=λx lo hi H Q=>∃a xs,x=.ref a/\Gd K H a xs/\
 ¬(HT.sIx xs.length 0 lo=0/\HT.sIx xs.length xs.length hi=i!)/\∀p,H p=none->Q c2_ (upd H p (.tup gx!))
def c6c:Ys X (EA X.K):=by
 intro O s Z H x v vl vu lo hi sl Q I rx hs pl pu h;obtain⟨a,xs,rfl,hx,hw,q⟩:=h;cases rx;obtain⟨its,r,ht,hz⟩:=I.tuple hx;have ar:a3!=i!:=by rw[GW];exact r.length.symm
 refine⟨"tuple",_,NN.lookup,ht.typeIs,?_⟩;refine HT.getItem_tuple_cut ht hs pl pu (by rw[ar];exact hw) ?_ (by rw[ar];exact hz);rw[ar];refine⟨dR!,_,I.laid (t':=s.toks) (o:=.tup gx!) nm! x_ ?_,rfl,q _ iY!⟩;exact⟨tW!,_,tW_,IsTup.new _ _⟩
def Yi(K:z1!):R2:=λx y H Q=>∃a b xs ys,x=.ref a/\y=.ref b/\Gd K H a xs/\Gd K H b ys/\xs≠[]/\i!+X_<=sizeLine/\
 (ys=[]->Q S_ H)/\(ys≠[]->∀p,H p=none->Q c2_ (upd H p (.tup eq!)))
def Ba.nil_iff{xs:k!}(r:fK_):us=[]↔xs=[]:=by
 cases r with
 |nil=>simp
 |cons _ _=>simp
def c2s:Gi X eI! (Yi X.K):=by intro O s Z H x y v u Q I rx ry h;obtain⟨a,b,xs,ys,rfl,rfl,ha,Y,hx,hz,q1,q2⟩:=h;cases rx;cases ry;obtain⟨its,r1,p1,_⟩:=I.tuple ha;obtain⟨gr,r2,p2,_⟩:=I.tuple Y;refine HT.cat_tup p1 p2 (λz=>hx (r1.nil_iff.mp z)) (λz=>⟨b6_,H,I,rfl,q1 (r2.nil_iff.mp z)⟩) (λz=>?_) (by rw[<-r1.length,<-r2.length];exact hz);refine⟨dR!,_,I.laid (t':=s.toks) (o:=.tup eq!) nm! x_ ?_,rfl,q2 (λw=>z (r2.nil_iff.mpr w)) _ iY!⟩;exact⟨by rw[HE];exact hz,_,r1.append r2,IsTup.new _ _⟩
end
end L2
namespace L2
open PySem PySem.Spec PyProof.Rows
def Dx(n:Nat)(i:Int):Option Nat:=if 0<=i then(if i<n then some i.toNat else none)else if -(n:Int)<=i then some (i+n).toNat else none
def Da{α:Type}(xs:H_)(i:Int):Option α:=(Dx xs.length i).bind λj=>xs[j]?
def b2d{n:Nat}{i:Int}{j:Nat}(h:Dx n i=some j):seqIndex? i n=some j/\j<n/\-(n:Int)<=i/\i<n:=by
 unfold Dx at h;by_cases h0:0<=i
 .rw[HB h0]at h;by_cases B:i<n
  .rw[HB B]at h;have e:i.toNat=j:=IR h;exact⟨by rw[seqIndex_of h0 B,e],u!,u!,B⟩
  .rw[GS B]at h;cases h
 .rw[GS h0]at h;by_cases B:-(n:Int)<=i
  .rw[HB B]at h;have e:(i+n).toNat=j:=IR h;exact⟨by rw[seqIndex_neg a! B,e],u!,B,u!⟩
  .rw[GS B]at h;cases h
def a4b{α:Type}{xs:H_}{i:Int}{v:α}(h:Da xs i=some v):∃j,seqIndex? i i!=some j/\xs[j]?=some v/\j<i!/\-ja_<=i/\i<i!:=by
 unfold Da at h;cases e:Dx xs.length i with
 |none=>rw[e]at h;cases h
 |some j=>
  rw[e]at h;obtain⟨B,J,h3,h4⟩:=b2d e;exact⟨j,B,h,J,h3,h4⟩
def Pk(b:Expr):Prop:=∀o i,subscripted b false o i=operate [o,i] (getItem o i)
def Vn(X:Cx)(r:R2):Prop:=
 ∀(value gf:Expr) (O:j!) (s:z2!) (Z:St) (H:Hp) (x y:V) (v u:ys!) (Q:VK),Inv X O Z H s->Bp x v->Bp y u->r x y H Q->
  subscripted gf false v u=operate [v,u] (getItem v u)->wpAny e! X.A (subscriptTail value gf v u) aG! X.xe s
def EQ(X:Cx)(id:String)(r:jb_):Prop:=
 ∀(O:j!) (s:z2!) (Z:St) (H:Hp) (x:V) (xs:k!) (v:ys!) (us:g_) (Q:VK),Inv X O Z H s->Bp x v->Ba xs us->r x xs H Q->
  wpAny e! X.A tZ_ aG! X.xe s
section
variable{X:Cx}{a b:Expr}{ta tb:TE}{pos:Pos}
def Vn.or{r r':R2}(h:Vn X r)(h':Vn X r'):Vn X ss!:=by
 intro value gf O s Z H x y v u Q I rx ry q hs;obtain q|q:=q
 .exact h value gf O s Z H x y v u Q I rx ry q hs
 .exact h' value gf O s Z H x y v u Q I rx ry q hs
def b7m{r:R2}(hr:Vn X r)(ha:aX!)(Y:cp!)(hs:Pk b):PE X nn! iA_:=by intro O s Z H Q I h;exact Subscript_ (c9j ha Y I h λv u s2 x y H2 I2 rx ry q=>hr a b O s2 Z H2 x y v u Q I2 rx ry q (hs _ _))
def AW(K:z1!):R2:=λx y H Q=>∃p xs i v,x=.ref p/\y=.int i/\Ff K H p xs/\Da xs i=some v/\Q v H
def AU(K:z1!):R2:=λx y H Q=>∃p xs i v,x=.ref p/\y=.int i/\Gd K H p xs/\Da xs i=some v/\Q v H
def AV:R2:=λx y H Q=>∃z i c,x=.str z/\y=.int i/\jc!<=sizeLine/\Da z.cps.toList i=some c/\Q gz_ H
def b2c:Vn X (AW X.K):=by
 intro value gf O s Z H x y v u Q I rx ry h hs;obtain⟨p,xs,i,z,rfl,rfl,hq,he,q⟩:=h;cases rx;obtain⟨t,rfl⟩:=ry;show"!?";obtain⟨j,B,J,h3,h4,h5⟩:=a4b he;obtain⟨w,ew,au⟩:=r.get J;have hl:=az_;have hn:=rD;have fin:EP X O Z Q w s:=t1!;by_cases h0:0<=i
 .have hj:i.toNat=j:=by
   rw[seqIndex_of h0 h5]at B;exact IR B
  exact item_listR pl.isList h0 a! t0! fin hs
 .have hj:(i+(a3!:Int)).toNat=j:=by
   rw[seqIndex_neg a! h4]at B;rw[GW,<-hl];exact IR B
  exact subscriptTail_builtinR (x:=w) pl.isList.typeIs t2!
   (wpAny_getItem_list_neg (Q:=t2_) pl.isList a! t3! a! t0! ⟨rfl,fin⟩) hs
def c8b:Vn X (AU X.K):=by
 intro value gf O s Z H x y v u Q I rx ry h hs;obtain⟨p,xs,i,z,rfl,rfl,hq,he,q⟩:=h;cases rx;obtain⟨t,rfl⟩:=ry;obtain⟨its,r,pl,hz⟩:=I.tuple hq;obtain⟨j,B,J,h3,h4,h5⟩:=a4b he;obtain⟨w,ew,au⟩:=r.get J;have hl:=az_;have hn:=rD;have fin:EP X O Z Q w s:=t1!;exact subscriptTail_builtinR (x:=w) pl.typeIs slot_tuple_getitem.lookup
  (getItem_tuple (j:=j) (Q:=t2_) pl a! a! (by rw[GW,<-hl];exact B) (by simpa using ew) ⟨rfl,fin⟩) hs
def c8c:Vn X AV:=by
 intro value gf O s Z H x y v u Q I rx ry h hs;obtain⟨z,i,c,rfl,rfl,hz,he,q⟩:=h;obtain⟨t,rfl⟩:=rx;obtain⟨t',rfl⟩:=ry;obtain⟨j,B,J,h3,h4,h5⟩:=a4b he;have hl:z.cps.toList.length=jc!:=by simp[Str.length]
 rw[hl]at B h4 h5;have hn:=rD;exact tail_any (typeIs_str s z t) slot_str_getitem.lookup (getItem_str (c:=c) (by
  have e1:decide (i< -(2 ^ 63:Int))=false:=HF a!;have e2:decide (i>=2 ^ 63)=false:=HF a!;rw[e1,e2,Bool.or_false]) (by rw[B];simpa using J) ⟨gA!,H,aX_,I!,q⟩) hs
def EE(K:z1!):R2:=λx y H Q=>AW K x y H Q\/AU K x y H Q\/AV x y H Q
def aH:Vn X (EE X.K):=b2c.or (c8b.or c8c)
def a9i(its:g_)(n j:Nat)(u:ys!):Obj.mapSeq t5_ {cls:=.type "list",data:=.seq its.toArray n}={cls:=.type "list",data:=.seq (its.set j u).toArray n}:=by simp[Obj.mapSeq]
def Inv.lst{O:j!}{Z:St}{H:Hp}{s:z2!}{p:xK!}{xs:k!}(I:c!)(h:H p=some N!):
  ∃(its:g_) (n:Nat),Ba xs its/\s.heap.get? p=some {cls:=.type "list",data:=.seq its.toArray n}/\i!<=sizeLine:=by
 obtain⟨z,its,n,r,e⟩:=I.hok p _ h;exact⟨its,n,r,e,z⟩
def Inv.lstUpd{O:j!}{Z:St}{H:Hp}{s:z2!}{p:xK!}{xs ys:k!}{its its':g_}{n n':Nat}{f:Obj->Obj}(I:c!)(h:H p=some N!)
  (ho:s.heap.get? p=some {cls:=.type "list",data:=.seq its.toArray n})(hf:f {cls:=.type "list",data:=.seq its.toArray n}={cls:=.type "list",data:=.seq its'.toArray n'})(r:Ba ys its')(hz:jd_)(t:Nat):
  Inv X O Z (upd H p aR_) {s with heap:=s.heap.update p f,toks:=t}:=by
 have e:(s.heap.update p f).get? p=some {cls:=.type "list",data:=.seq its'.toArray n'}:=by
  rw[JX f ho (by rw[hf]<;>rfl),hf]
 refine I.write (x:=p) (e:=p) (by rw[h];trivial) aF_ (λb u Y q=>(IM _ _ eV!).trans q) bx_ ?_;exact⟨hz,its',n',r,e⟩
def AR:V->V->V->Hp->mf!->Prop:=λo i v H Q=>∃p xs k j,o=.ref p/\i=.int k/\H p=some N!/\Dx xs.length k=some j/\Q t8_
def a4l:Vj X AR:=by
 intro O s Z H o i v ov iv u Q I ro ri rv h;obtain⟨p,xs,k,j,rfl,rfl,hp,hj,q⟩:=h;cases ro;obtain⟨t,rfl⟩:=ri;obtain⟨its,n,r,ho,hz⟩:=I.lst hp;obtain⟨B,J,h3,h4⟩:=b2d hj;have hl:=az_;have hn:=rD;have I':Inv X O Z t8_ {s with heap:=s.heap.update p (Obj.mapSeq t5_)}:=
  I.lstUpd hp ho (a9i its n j u) (r.set rv j) (by rw[KW];exact hz) s.toks
 by_cases h0:0<=k
 .have hk:k.toNat=j:=by
   rw[seqIndex_of h0 h4]at B;exact IR B
  exact W.ki_setAt ho h0 a! (by rw[GW,<-hl];exact h4) t9!
 .have hk:(k+(a3!:Int)).toNat=j:=by
   rw[seqIndex_neg a! h3]at B;rw[GW,<-hl];exact IR B
  exact W.ki_setBack ho a! (by rw[GW,<-hl];exact h3) a! t9!
def a0k(lo hi:a2_)(n:Nat):(np!).1=((HT.sIx n 0 lo:Nat):Int)/\(np!).2.1=((HT.sIx n n hi:Nat):Int)/\(np!).2.2=1:=by
 refine⟨?_,?_,rfl⟩
 .cases lo with
  |none=>simp[sliceBounds,HT.sIx]
  |some i=>
   show"!n"
   .simp only[h,IU]<;>omega
   .simp only[h,IN]<;>omega
 .cases hi with
  |none=>simp[sliceBounds,HT.sIx]
  |some i=>
   show"!n"
   .simp only[h,IU]<;>omega
   .simp only[h,IN]<;>omega
def xA(its:g_)(lo hi:a2_):slicePick its.toArray lo hi none=((its.drop (HT.sIx its.length 0 lo)).take (HT.sIx its.length its.length hi - HT.sIx its.length 0 lo)).toArray:=by obtain⟨B,J,h3⟩:=a0k lo hi a3!;unfold slicePick;rw[B,J,h3];simp only[sliceRange_one,pick_run,GW]<;>rfl
def EB(K:z1!):V->Option Int->Option Int->Hp->VK->Prop:=λx lo hi H Q=>∃a xs,x=.ref a/\Ff K H a xs/\∀p,H p=none->Q c2_ (upd H p (.lst gx!))
def c1q:Ys X (EB X.K):=by intro O s Z H x v vl vu lo hi sl Q I rx hs pl pu h;obtain⟨a,xs,rfl,hx,q⟩:=h;cases rx;obtain⟨its,r,ht,hz⟩:=I.list hx;have ar:=az_;refine⟨"list",_,t2!,ht.isList.typeIs,?_⟩;refine wpAny_getItem_list_slice ht.isList hs pl pu .none c_ ?_ t3!;rw[xA,<-ar];refine⟨dR!,_,I.laid (t':=s.toks) (o:=.lst gx!) nm! x_ ?_,rfl,q _ iY!⟩;exact⟨tW!,_,0,tW_,dE!⟩
def Mo:V->Bool
 |.non=>true
 |.bl _=>true
 |.int _=>true
 |.str _=>true
 |_=>false
def Ww:V->V->Bool
 |.non,.non=>true
 |.bl a,.bl b=>a==b
 |.bl a,.int b=>uc_==b
 |.int a,.bl b=>a==ud!
 |.int a,.int b=>a==b
 |.str a,.str b=>a==b
 |_,_=>false
def c8k{A:xX!}{s:z2!}{y x:V}{u v:ys!}(ry:Bp y u)(rx:Bp x v)(fy:Mo y=true)(fx:Mo x=true):SeqAt.EqAt A s u v (Ww y x):=by
 cases y with
 |non=>
  cases ry;cases x with
  |non=>cases rx;exact SeqAt.EqAt.same _
  |bl b=>cases rx;exact SeqAt.EqAt.none_bool b
  |int b=>obtain⟨t,rfl⟩:=rx;exact SeqAt.EqAt.none_int b t
  |str b=>obtain⟨t,rfl⟩:=rx;exact SeqAt.EqAt.none_str b t
  |_=>exact absurd jf! HM
 |bl a=>
  cases ry;cases x with
  |non=>cases rx;exact SeqAt.EqAt.bool_none a
  |bl b=>cases rx;exact SeqAt.EqAt.bool_bool a b
  |int b=>obtain⟨t,rfl⟩:=rx;exact SeqAt.EqAt.bool_int a b t
  |str b=>obtain⟨t,rfl⟩:=rx;exact SeqAt.EqAt.bool_str a b t
  |_=>exact absurd jf! HM
 |int a=>
  obtain⟨t',rfl⟩:=ry;cases x with
  |non=>cases rx;exact SeqAt.EqAt.int_none a t'
  |bl b=>cases rx;exact SeqAt.EqAt.int_bool a t' b
  |int b=>obtain⟨t,rfl⟩:=rx;exact OT a t' b t
  |str b=>obtain⟨t,rfl⟩:=rx;exact SeqAt.EqAt.int_str a t' b t
  |_=>exact absurd jf! HM
 |str a=>
  obtain⟨t',rfl⟩:=ry;cases x with
  |non=>cases rx;exact SeqAt.EqAt.str_none a t'
  |bl b=>cases rx;exact SeqAt.EqAt.str_bool a t' b
  |int b=>obtain⟨t,rfl⟩:=rx;exact SeqAt.EqAt.str_int a t' b t
  |str b=>obtain⟨t,rfl⟩:=rx;exact SeqAt.EqAt.str_str a t' b t
  |_=>exact absurd jf! HM
 |_=>exact absurd (show false=true from fy) HM
def Uc(x:V)(u:ys!):Bool:=match u with
 |.none=>Ww .non x
 |.bool b=>Ww bK_ x
 |.int i _=>Ww bp_ x
 |.str z _=>Ww (.str z) x
 |_=>false
def b9v{x y:V}{u:ys!}(r:Bp y u)(f:Mo y=true):Uc x u=Ww y x:=by
 cases y with
 |non=>cases r;rfl
 |bl b=>cases r;rfl
 |int i=>obtain⟨t,rfl⟩:=r;rfl
 |str z=>obtain⟨t,rfl⟩:=r;rfl
 |_=>exact absurd (show false=true from f) HM
def qC{x:V}:∀{xs:k!} {us:g_},Ba xs us->xs.all Mo=true->us.any dR_=xs.any λy=>Ww y x
 |_,_,.nil,_=>rfl
 |y::xs,u::us,.cons r t,f=>by
  rw[MM,HZ]at f;rw[LH,LH,b9v r f.1,qC t f.2]
def lO{A:xX!}{s:z2!}{x:V}{v:ys!}(rx:Bp x v)(fx:Mo x=true):∀{xs:k!} {us:g_},Ba xs us->xs.all Mo=true->∀u∈us,SeqAt.EqAt A s u v (Uc x u)
 |_,_,.nil,_=>λu hu=>by cases hu
 |y::xs,u::us,.cons r t,f=>λu' hu=>by
  rw[MM,HZ]at f;obtain rfl|hu:=GR.mp hu
  .rw[b9v r f.1];exact c8k r rx f.1 fx
  .exact lO rx fx t f.2 u' hu
def CK(x:V)(xs:k!):Bool:=xs.any λy=>Ww y x
def CG(K:z1!)(neg:Bool):R2:=λx y H Q=>∃p xs,y=.ref p/\(Ff K H p xs\/Gd K H p xs)/\Mo x=true/\xs.all Mo=true/\Q (.bl (if neg then !CK x xs else CK x xs)) H
def b3w:Gi X jg! (CG X.K false):=by
 intro O s Z H x y v u Q I rx ry h;obtain⟨p,xs,rfl,hq,fx,fs,q⟩:=h;cases ry;obtain hq|hq:=hq
 .show"!?";refine SeqAt.in_listAt dR_ pl.isList jg_ c8_;rw[jh!,ji!];exact q
 .show"!M";refine SeqAt.in_tupleAt dR_ pl jg_ c8_;rw[jh!,ji!];exact q
def a1c:Gi X jh_ (CG X.K true):=by
 intro O s Z H x y v u Q I rx ry h;obtain⟨p,xs,rfl,hq,fx,fs,q⟩:=h;cases ry;obtain hq|hq:=hq
 .show"!?";refine SeqAt.notIn_listAt dR_ pl.isList jg_ c8_;rw[jh!,ji!];exact q
 .show"!M";refine SeqAt.notIn_tupleAt dR_ pl jg_ c8_;rw[jh!,ji!];exact q
def DD(K:z1!)(T:String)(x:V)(H:Hp):Prop:=match x with
 |.str _=>T="str"
 |.int _=>T="int"
 |.ref p=>(T="list"/\∃xs,Ff K H p xs)\/(T="tuple"/\∃o,K.lookup p=some o/\o.cls=.type "tuple"/\o.dict=none)\/
   (T="dict"/\((∃kvs,H p=some dH!)\/∃kvs,H p=some ji_))\/(T="set"/\∃S n,H p=some (.set S n))
 |_=>False
def b5n{O:j!}{Z:St}{H:Hp}{s:z2!}{T:String}{x:V}{v:ys!}(I:c!)(r:Bp x v)(ty:DD X.K T x H):
  s.TypeIs v T/\∀a,v=.ref a->∃ob,s.heap.get? a=some ob/\ob.dict=none:=by
 cases x with
 |str z=>
  obtain⟨t,rfl⟩:=r;cases (show T="str" from ty);exact⟨typeIs_str s z t,uf_⟩
 |int i=>
  obtain⟨t,rfl⟩:=r;cases (show T="int" from ty);exact⟨typeIs_int s i t,uf_⟩
 |ref p=>
  cases r;obtain⟨rfl,xs,hq⟩|⟨rfl,o,hk,hc,hd⟩|⟨rfl,hk⟩|⟨rfl,S,n,hk⟩:=ty
  .obtain⟨its,_,pl,_⟩:=I.list hq;refine⟨pl.isList.typeIs,λa e=>?_⟩;cases e;obtain⟨o,n,e,c,hd,_⟩:=pl;exact⟨o,e,hd⟩
  .refine⟨⟨o,I.kIn p o hk,hc⟩,λa e=>?_⟩;cases e;exact⟨o,I.kIn _ o hk,hd⟩
  .have z:∃o,s.heap.get? p=some o/\hP_:=by
    obtain⟨kvs,hk⟩|⟨kvs,hk⟩:=hk
    .show"!u"
    .show"!u"
   obtain⟨o,e,ex⟩:=z;refine ug_;cases e2;exact uh!
  .obtain⟨o,_,_,_,e,ex,_⟩:=I.hok p _ hk;refine ug_;cases e2;exact uh!
 |_=>exact False.elim ty
def DU(K:z1!)(T:String)(r:jb_)(to:TE):TE:=λZ H Q=>to Z H λx H1=>DD K T x H1/\r x [] H1 Q
def FY(K:z1!)(T:String)(r:jb_)(to:TE)(t:TA):TE:=λZ H Q=>to Z H λx H1=>DD K T x H1/\t Z H1 λxs H2=>r x xs H2 Q
variable{o e:Expr}{es:List Expr}{to:TE}{t:TA}{name:Str}{aj ag:Pos}{T id:String}{r:V->List V->Hp->VK->Prop}
def c6t(pa:PlainAttrs T)(slot:uh_)(yq:ui!)(hm:EQ X id r)(ho:mg!)
  (ez:ui_:=by rfl)(fg:c9!:=by rfl):PE X (.Call uj_ [] [] ag) (DU X.K T r to):=by
 show"!G";refine wpAny_Call_method0_late ez fg uk!;obtain⟨B,J⟩:=b5n I1 r1 ty;exact⟨T,id,pa,slot,yq,B,J,LJ rfl (PySem.evalArgs_none (hm O s1 Z H1 x [] v [] Q I1 r1 .nil q1))⟩
def a5k(pa:PlainAttrs T)(slot:uh_)(yq:ui!)(hm:EQ X id r)(ho:mg!)(ha:eQ!)
  (ez:ui_:=by rfl)
  (iy:((backTo ag s8!).all c9_&&(da!).all da_
   &&decide ((aG_).length+(dS!).length+eV_<30))=true:=by rfl)
  (fg:c9!:=by rfl) (hs:am!:=by rfl) (iz:(ul_).any b_=false:=by rfl):
  PE X (.Call uj_ aG_ [] ag) (FY X.K T r to t):=by
 show"!G";refine wpAny_Call_method_late ez iy fg rfl uk!;obtain⟨B,J⟩:=b5n I1 r1 ty;refine⟨T,id,pa,slot,yq,B,J,?_⟩;have hA:=ha ag O s1 Z H1 _ I1 q1;rw[hs]at hA ⊢;refine LJ (by show(false||(ul_).any b_)=false;rw[iz]<;>rfl) (LU ?_);exact dA hA λus s2 ⟨vs,H2,I2,r2,q2⟩=>hm O s2 Z H2 x vs v us Q I2 r1 r2 q2
end
end L2
namespace L2
open PySem PySem.Spec PyProof.Rows
def CV(X:Cx)(id:String)(r:jb_):Prop:=
 ∀(O:j!) (s:z2!) (Z:St) (H:Hp) (x:V) (xs:k!) (v:ys!) (us:g_) (Q:VK),Inv X O Z H s->Bp x v->Ba xs us->r x xs H Q->
  wpAny e! X.A tZ_ aG! X.xe s
def Ba.one:∀{x:V} {us:g_},Ba [x] us->∃u,us=[u]/\Bp x u
 |_,_,.cons r .nil=>lv!
def Ba.zero:∀{us:g_},Ba [] us->us=[]
 |_,.nil=>rfl
def Ba.dropLast{xs:k!}{us:g_}(h:fK_):Ba xs.dropLast us.dropLast:=by
 induction h with
 |nil=>exact .nil
 |cons r t ih=>
  cases t with
  |nil=>exact .nil
  |cons q t'=>exact .cons r ih
def Ba.rep{xs:k!}(h:fK_):∀k:Nat,Ba (um!).flatten (List.replicate k us).flatten
 |0=>.nil
 |k+1=>by
  rw[KU,KU,ML,ML];exact Ba.append h (Ba.rep h k)
def a9w{α:Type}(l:H_):l.eraseIdx (Y! - 1)=l.dropLast:=by
 induction l with
 |nil=>rfl
 |cons a r ih=>
  cases r with
  |nil=>rfl
  |cons b r=>
   have e:(a::b::r).length - 1=((b::r).length - 1)+1:=by
    have B:(a::b::r).length=az_+2:=rfl;have J:(b::r).length=az_+1:=rfl;omega
   rw[e,List.eraseIdx_cons_succ,ih]
   all_goals rfl
def zP(its:g_):∀(k:Nat) (acc:g_),
  List.foldl nr_ acc.toArray (List.replicate k aO!)=(acc++(um_).flatten).toArray
 |0,acc=>by simp
 |k+1,acc=>by
  have e:acc.toArray++aO!=(ns!).toArray:=by simp
  have e2:ns!++(um_).flatten=acc++(List.replicate Q_ its).flatten:=by
   rw[KU,ML,IY]
  rw[<-e2,<-zP its k ns!,<-e,KU,List.foldl_cons]
section
variable{X:Cx}{O:List (Addr×Obj)}{Z:St}{H:Hp}{s:z2!}{l b:xK!}{xs ys zs:List V}
def Inv.lset{its its':g_}{n:Nat}{f:Array Value->Array Value}{t':Nat}(I:c!)(hH:H l=some N!)
  (e:s.heap.get? l=some {cls:=.type "list",data:=.seq its.toArray n})(hf:f aO!=its'.toArray)(hv:Ba ys its')(hz:jd_):
  Inv X O Z (upd H l aR_) {s with heap:=s.heap.update l uo!,toks:=t'}:=by
 have q:=PySem.IsL.update e f;rw[hf]at q;refine I.write (x:=l) (e:=l) (by rw[hH];exact trivial) aF_ (λb' u Y hu=>(IM s.heap uo! eV!).trans hu) ⟨_,q⟩ ?_;exact⟨hz,its',_,hv,q⟩
def Inv.lnew{its:g_}{t':Nat}(I:c!)(hv:Ba ys its)(hz:jd_):
  Inv X O Z (upd H s.heap.objs.size aR_) {s with heap:=s.heap.push {cls:=.type "list",data:=.seq aO!},toks:=t'}:=
 I.laid up_ x_ ⟨hz,its,0,hv,dE!⟩
def Inv.fresh(I:c!):H k_=none:=I.hok.fresh x_
def Inv.lstM(I:c!)(hH:H l=some N!):i!<=sizeLine/\∃(its:g_) (n:Nat),Ba xs its/\i!=dS_/\s.heap.get? l=some {cls:=.type "list",data:=.seq its.toArray n}:=by obtain⟨z,its,n,r,e⟩:=I.hok l _ hH;exact⟨z,its,n,r,az_,e⟩
def a5r{n:Nat}(h:nt_):Builtin.List.listTooLong n=false:=by unfold Builtin.List.listTooLong;exact HF a!
end
section
variable{X:Cx}
def Xi:V->List V->Hp->VK->Prop:=λx vs H Q=>∃l xs y,x=.ref l/\vs=[y]/\H l=some N!/\i!<sizeLine/\Q .non (upd H l (.lst eW!))
def zE:CV X "list.append" Xi:=by intro O s Z H x vs v us Q I rx rv h;obtain⟨l,xs,y,rfl,rfl,hH,hz,q⟩:=h;cases rx;obtain⟨u,rfl,ru⟩:=rv.one;obtain⟨z,its,n,r,hl,e⟩:=I.lstM hH;refine QI F.slot_list_append db! F.entry_list_append (F.args_list_append_2 _ _) (PySem.list_append l its.toArray n u nu!) eW_;refine⟨.non,_,I.lset (its':=its++[u]) hH e c_ (r.append ur!) ?_,rfl,q⟩;rw[HE,IZ];omega
def Xh:V->List V->Hp->VK->Prop:=λx vs H Q=>∃l b xs zs,x=.ref l/\vs=[.ref b]/\H l=some N!/\H b=some (.lst zs)/\i!+zs.length<=sizeLine/\Q .non (upd H l us!)
def b4h:CV X "list.extend" Xh:=by
 intro O s Z H x vs v us Q I rx rv h;obtain⟨l,b,xs,zs,rfl,rfl,hH,hB,hz,q⟩:=h;cases rx;obtain⟨u,rfl,ru⟩:=rv.one;cases ru;obtain⟨z,its,n,r,hl,e⟩:=I.lstM hH;obtain⟨z2,gr,n2,r2,hl2,e2⟩:=I.lstM hB;have hsz:a3!+us_<=sizeLine:=by rw[GW,GW];omega
 have yr:¬(! mO_&&Builtin.List.listTooLong (a3!+us_))=true:=by
  rw[a5r hsz,PY];exact HM
 refine QI F.slot_list_extend db! F.entry_list_extend (F.args_list_extend_2 _ _)
  (AutoSeq1.list_extend_list_list_0 l its.toArray n b gr.toArray n2 yr nu! a!) ⟨e,e2,?_⟩
 refine⟨.non,_,I.lset (its':=its++gr) hH e c_ (r.append r2) ?_,rfl,q⟩;rw[HE];omega
def ED:V->List V->Hp->VK->Prop:=λx vs H Q=>∃l xs y,x=.ref l/\vs=[]/\H l=some N!/\xs[i! - 1]?=some y/\Q y (upd H l (.lst xs.dropLast))
def c7m:CV X "list.pop" ED:=by
 intro O s Z H x vs v us Q I rx rv h;obtain⟨l,xs,y,rfl,rfl,hH,hy,q⟩:=h;cases rx;have YB:=rv.zero;subst YB;obtain⟨z,its,n,r,hl,e⟩:=I.lstM hH;obtain⟨u,hu,ru⟩:=r.get hy;have yt:aO![a3! - 1]?=some u:=by
  show aO![dS_ - 1]?=some u;rw[<-LI,<-hl];exact hu
 refine QI F.slot_list_pop db! F.entry_list_pop (F.args_list_pop_1 _) (MeetsSeq.list_pop_last l its.toArray n u yt nu!) eW_;refine⟨y,_,I.lset (its':=its.dropLast) hH e ?_ r.dropLast ?_,ru,q⟩
 .show its.toArray.eraseIdxIfInBounds (a3! - 1)=its.dropLast.toArray;rw[GW,List.eraseIdxIfInBounds_toArray,a9w]
 .rw[List.length_dropLast];omega
def EC:R2:=λx y H Q=>∃l k xs,x=.ref l/\y=.int k/\H l=some N!/\-(2 ^ 63)<=k/\k<2 ^ 63/\i!*k.toNat<=sizeLine/\
 ∀p,H p=none->Q c2_ (upd H p (.lst (List.replicate k.toNat xs).flatten))
def c3h{α:Type}(xs:H_)(k:Nat):(um!).flatten.length=k*i!:=by
 induction k with
 |zero=>simp
 |succ k ih=>rw[KU,ML,HE,ih,Nat.succ_mul,Nat.add_comm]
def c6u:Gi X sl! EC:=by
 intro O s Z H x y v u Q I rx ry h;obtain⟨l,k,xs,rfl,rfl,hH,B,J,hz,q⟩:=h;cases rx;obtain⟨t,rfl⟩:=ry;obtain⟨z,its,n,r,hl,e⟩:=I.lstM hH;have ar:a3!*k.toNat<=sizeLine:=by rw[GW,<-hl];exact hz
 have YC:¬a3!*k.toNat>(2 ^ 63 - 1) / 8:=by
  have:(sizeLine:Nat)<=(2 ^ 63 - 1) / 8:=by decide
  omega
 have yu:¬(!Builtin.List.listFitsIndex k)=true:=by
  rw[fitsIndex_both B J];exact HM
 have yr:¬Builtin.List.listTooLong (a3!*k.toNat)=true:=by
  rw[a5r ar];exact HM
 have qo:List.foldl nr_ #[] (List.replicate (if mO_=true then 0 else k.toNat) aO!)=(List.replicate k.toNat its).flatten.toArray:=by
  have f0:∀m:Nat,List.foldl nr_ #[] (List.replicate m aO!)=(List.replicate m its).flatten.toArray:=λm=>by
   have:=zP its m [];rw[JO]at this;show"#;"
  rw[f0];cases its with
  |nil=>simp
  |cons a r'=>rw[an!]
 refine wpAny_binaryOp_repeat_ref (T:="list") (U:="int") d! db! (λs'=>typeIs_int s' k t) noFill_list_mul F.fills_int_mul F.slot_int_rmul repeat_list F.slot_int_index.lookup
  (QI F.slot_int_rmul (typeIs_int s k t) F.entry_int_rmul (F.args_int_rmul_2 _ _) (int___rmul___int_list k t l its.toArray n)
   ⟨e,rfl,db!,QI F.slot_list_mul db! F.entry_list_mul (F.args_list_mul_2 _ _) (AutoListH.list___mul___list_int_3 l its.toArray n k t yu YC yr) eW_⟩)
 rw[qo];exact⟨.ref _,_,I.lnew (t':=s.toks) (r.rep k.toNat) (by rw[c3h,Nat.mul_comm];exact hz),rfl,q _ I.fresh⟩
end
end L2
namespace L2
open PySem PySem.Spec PyProof.Rows
section
variable{κ:Type} [DecidableEq κ]
def My(kvs:ge!)(k:κ):Option V:=(kvs.find? λkv=>decide (kv.1=k)).map s_
def b5l{p:κ×V}{r:ge!}{k:κ}(e:p.1=k):My (p::r) k=some p.2:=by simp[My,KZ,e]
def b5m{p:κ×V}{r:ge!}{k:κ}(e:¬p.1=k):My (p::r) k=My r k:=by simp[My,KZ,e]
def Nr.isSome_eq{o:Option V}{u:iN!}(r:Nr o u):o.isSome=u.isSome:=by
 cases o with
 |none=>cases u with
  |none=>rfl
  |some _=>exact(iN_).elim
 |some _=>cases u with
  |none=>exact(iN_).elim
  |some _=>rfl
def KV.val{kvs:ge!}{vs:List lv_}(r:KV kvs vs)(k:κ):Nr (My kvs k) (valueAt vs k):=by
 unfold KV at r
 induction r with
 |nil=>exact iQ_
 |@cons p q ps qs h t ih=>
  obtain⟨B,J⟩:=h;by_cases e:p.1=k
  .have e':q.1=k:=B.symm.trans e;have b:valueAt (q::qs) k=some q.2:=by simp[valueAt,KZ,e']
   rw[b5l e,b];exact J
  .have e':¬q.1=k:=λz=>e (B.trans z);have b:valueAt (q::qs) k=valueAt qs k:=by simp[valueAt,KZ,e']
   rw[b5m e,b];exact ih
end
def b9e{P:z3!}{w:yt!}{k:Key}{u:ys!}(r:Bp (kV k) u):(bn!).is k u=true:=by
 cases k with
 |inl i=>obtain⟨t,e⟩:=sK!;subst e;exact a5y P w i t
 |inr x=>obtain⟨t,e⟩:=sK_;subst e;exact lN P w x t
def rH{P:z3!}{w:yt!}:∀{ks:List Key} {us:g_},Ba nw! us->ItemsAre bn! ks us
 |[],_,r=>by rw[MC]at r;cases r;exact .nil
 |k::ks,_,r=>by
  rw[GY]at r;cases r with
  |cons h t=>exact .cons (b9e h) (rH t)
abbrev KT(H:Hp):List (List Key×V)->List lw_->Prop:=Paired λp q=>p.1=q.1/\H q.2.1=some qA!/\Bp p.2 q.2.2
section
variable{P:z3!}{w:yt!}{H:Hp}{h:Heap}{a:xK!}
def d0f{u:HO}(ok:ba!)(e:Rd H a u):Er P w H h a u:=e.ok ok
def a2z{ks:List Key}(ok:ba!)(e:H a=some (.tup nw!)):(fL_).is h ks a:=by obtain⟨_,its,r,o,B,J,n,h3⟩:=(show Er P w H h a (.tup nw!)from ok a _ e);exact⟨o,aO!,n,B,J,h3,by simpa using rH r⟩
def d1j{kvs:hO_}(ok:ba!)(e:Rd H a ji_):az!<=sizeLine/\dy!=false/\
  ∃xs,KT H kvs xs/\h.DictOfH fL_ a xs:=by
 obtain⟨z,y,xs,r,o,es,ep,B,J,h3,h4,h5⟩:=(show Er P w H h a ji_ from d0f ok e);refine⟨z,y,xs,r,o,es,ep,B,J,h3,h4,aS_,h5⟩;have all:∀{l:hO_} {m:List lw_},KT H l m->∀x∈m,(fL_).is h x.1 x.2.1:=by
  intro l m q
  induction q with
  |nil=>intro x hx;exact nomatch hx
  |@cons p q ps qs hq t ih=>
   intro x hx;obtain e|hx:=GR.mp hx
   .subst e;exact a2z ok (by rw[<-hq.1];exact hq.2.1)
   .exact ih x hx
 exact all r x hx
def wN{kvs:hO_}(ok:ba!)(e:H a=some ji_):az!<=sizeLine/\dy!=false/\
  ∃xs,KT H kvs xs/\h.DictOfH fL_ a xs:=d1j ok (.inl e)
end
section
variable{X:Cx}{O:List (Addr×Obj)}{Z:St}{H:Hp}{s:z2!}{a:xK!}{y v:V}{u r:ys!}{o:Option V}{A:xX!}{E:Value->Shared->Prop}
def Inv.big(I:c!):sysModules<k_:=by have h:mainGlobals<k_:=(I.mod.glob.keeps I.bk).lt;exact Nat.lt_trans d! h
def c4p{h':Heap}{t':Nat}{ob:HO}(I:c!)(mu:BS (H a))(hs:uD_)(he:∃q,h'.get? a=some q)(new:Er X.prog X.w (upd H a ob) h' a ob):
  Inv X O Z (upd H a ob) {s with heap:=h',toks:=t'}:=
 I.write (x:=a) (e:=a) mu aF_ (λb q Y z=>(hs.2 b Y).trans z) he new
end
def BR(i:Expr):Prop:=∀ov iv,subscripted i false ov iv=operate [ov,iv] (getItem ov iv)
def c1o{prog:z3!}{w:yt!}{A:xX!}{E:n_}{s:z2!}{value:Expr}{pos:Pos}{T id:String}{Q:n_}
  (hl:typeLookup dP! "__getitem__"=pure (some eS_))(hs:BR gf)
  (h:wpAny q! A (eval value env) (λo ak=>wpAny q! A (eval gf env) (λi am=>am.TypeIs o T/\wpAny q! A (getItem o i) Q E am) E ak) E s):
  wpAny q! A (eval (.Subscript value gf pos) env) Q E s:=by
 refine Subscript_ (JH h (λo ak h₁=>JH h₁ (λi am t3=>?_) λ_ _ x=>x) λ_ _ x=>x);obtain⟨hT,t3⟩:=t3;unfold subscriptTail;refine GM ?_;rw[getitemInPython_of_ne hT.not_modules];refine GM (OI hT hl ?_);have fin:wpAny q! A (subscripted gf false o i) (λr c9=>wpAny q! A (letTemporaryGo value o r>>=λ_=>pure r) Q E c9) E am:=by
  rw[hs o i];exact wpAny_operating (JH t3 (λr c9 wf=>GM (wpAny_letTemporaryGo (GO wf))) λ_ _ x=>x)
 first
  |exact GO jn_
  |exact GM (GO jn_)
  |exact GM fin
structure M1(X:Cx)(o:Expr)(m:Str)(aj:Pos)(e:Expr)(ag:Pos):Prop where
 base:attributeBase o m X.env cW!=eval o X.env
 few:((jn!).all c9_&&(da!).all da_
  &&decide (([e]:List Expr).length+(dS!).length+eV_<30))=true
 line:nr!=true
 trees:backTo ag uH_=[dL!]
structure M2(X:Cx)(o:Expr)(m:Str)(aj:Pos)(e f:Expr)(ag:Pos):Prop where
 base:attributeBase o m X.env cW!=eval o X.env
 few:((backTo ag uI!).all c9_&&(da!).all da_
  &&decide (([e,f]:List Expr).length+(dS!).length+eV_<30))=true
 line:nr!=true
 trees:backTo ag uI!=[dL!,(false,eval f X.env)]
end L2
namespace Att
open PySem PySem.W PySem.Calls PyProof.Rows
def tI{P:Params}{h:Heap}:∀(ns:z!) (vs:g_),WellAll P h vs uJ!->IntsAre vs ns:=by
 intro ns
 induction ns with
 |nil=>
  intro vs w;rw[MC]at w;cases w;exact .nil
 |cons n ns ih=>
  intro vs w;rw[GY]at w;cases w with
  |cons a b=>
   cases a;exact .cons _ _ (ih _ b)
def b3g{l:OpenLaw}{n:Nat}(hn:jo!){P:Params}{h:Heap}{args:List WData}
  (wg:l.row.toRowW.claim.pre args=true)(yw:WellAll P h yx args):
  ∃a vs ns,yx=[Value.ref a]/\args=[WData.list uJ!]/\h.get? a=some {cls:=.type "list",data:=.seq cv!}/\IntsAre vs ns/\c1!<=n:=by
 have YD:WShape.hasAll [] args [.list .int]=true:=(uJ_).1;have hc:l.pre.holds [] {args:=args}=true:=(uJ_).2;obtain⟨d,r,rfl,B,J⟩:=hasAllW_cons YD;obtain rfl:=hasAllW_nil J;obtain⟨xs,rfl,h3⟩:=hasW_list B;obtain⟨ns,rfl⟩:=items_int h3;have ar:c1!<=n:=by
  unfold OpenLaw.pre at hc;have h4:(WTm.not (.lt (.lit (.int (n:Int))) (.len (.arg 0)))).holds [] {args:=[.list jo_]}=true:=by
   have h4:=(holds_andW hc).1;rw[hn]at h4;exact h4
  have h5:=condW_of h4 (w_not (w_lt w_lit (w_len_list (w_arg rfl))));rw[HG]at h5;refine Nat.le_of_not_lt λq=>?_;have q':(n:Int)<((c1!:Nat):Int):=by omega
  first
   |(rw[HY q']at h5;exact absurd h5 d!)
   |(simp at h5;omega)
 cases yw with
 |cons w1 w2=>
  cases w2;cases w1 with
  |list ho gu=>exact⟨_,_,ns,rfl,rfl,ho,tI ns _ gu,ar⟩
def b3o(l:OpenLaw)(args:List WData):l.row.toRowW.claim.post args gC! args=true:=
 postW_of (r:=l.row.toRowW) (X:=(true==true))
  (show WShape.has [] gC! .bool=true by first|rfl|decide|simp[WShape.has,WShape.arms,WShape.armsAll])
  (show(WTm.eq .res (.lit gC!)).value [] {args:=args,res:=some gC!,after:=args}=some (.bool (true==true))from w_eq_bool (w_res rfl) w_lit) rfl
def a7p{l:OpenLaw}{n:Nat}{XP:nB_}{YP:nC!}{d:DefRec}
  (hn:jo!)(t6:nD!)
  (call:∀(w:yt!) (s₀ ak:z2!) (mg mb:y_) (fa:xK!) (o:Obj) (pm cd bo:ys!) (a:xK!) (vs:g_) (ns:z!),
   Ground q yy [] XP w s₀ mg mb ak.heap->YP w ak.heap->
   ak.heap.get? fa=some o->o.data=.func (docDef d.name d.params d.body d.scope pm cd bo)->ak.heap.CodeRec cd d.name->mg d.name=some eZ!->
   ak.heap.get? a=some {cls:=.type "list",data:=.seq cv!}->IntsAre vs ns->c1!<=n->ak.gens=#[]->
   codeAny (model l.prog w) callerA nE! nE_ ak):
  WalkO q yy XP YP l.row.toRowW d [] nF!:=by
 intro w s₀ ak mg mb G gw fa o pm cd bo dV kV ho hd bv hD kg hg args yx as wg hlay hrd yw hlo;obtain rfl:dV=.none:=Dflts.none hD t6;obtain rfl:kV=.none:=Dflts.noKw hD;obtain⟨a,vs,ns,rfl,rfl,yz,hints,ar⟩:=b3g hn wg yw;refine enter_call (OQ (call w s₀ ak mg mb fa o pm cd bo a vs ns G gw ho (fd_plain hd) bv kg yz hints ar hg) λr s' hq=>?_);obtain⟨rfl,J,h3,h4⟩:=hq;exact⟨.inl ⟨nG!,nG!,[],rfl,gj_,nG!,b3o l _,λ_=>⟨jp!,λ_ hm=>(nomatch hm)⟩⟩,J,h3,h4⟩
section
variable{prog:z3!}{w:yt!}{A:xX!}{E:Value->Shared->Prop}{s:z2!}{K:Frag}
end
end Att
namespace L2
open PySem PySem.Spec PyProof.Rows
def yI:∀{vs:g_} {ns:z!},IntsAre vs ns->Ba b9! vs
 |_,_,.nil=>.nil
 |_,_,.cons n t h=>.cons nH_ (yI h)
def Xv(H:Hp):Prop:=∀b,H b=none\/∃o xs,H b=some (.frz o N!)
def b8x{P:z3!}{w:yt!}{K:z1!}{mg mb:y_}{CX:Va}{k:Nat}{a:xK!}{fd:FuncData}{x:Str}{sp:Sp}{ak:z2!}{vs:g_}{ns:z!}
  (KX:K.In ak.heap)(cf:ak.heap.Ns mainGlobals mg)(Y:ak.heap.Ns builtinsNs mb)(YE:∀x:Str,x≠"__name__"->mb x=bootBuiltins x)(YF:ak.heap.NoLimit)(hg:ak.gens=#[])
  (ha:ak.heap.get? a=some {cls:=.type "list",data:=.seq cv!})(hi:IntsAre vs ns)(hl:sE_)(hr:nI_)
  (F:∀base:Heap,K.In base->base.Ns mainGlobals mg->Fe P w K mg base CX k fa fd [x] sp)(YG:∀(s:z2!) (u:ys!),BindsTo s fd jq_ [(x,u)])
  (jj:∀H:Hp,Xv H->Ff K H a b9!->sp bd_ H jr! λ_ _ _=>False)
  (t9:∀H e s',CX [] H ak gC_ e s'->False):
  codeAny J_ callerA nE! nE_ ak:=by
 have rv:=yI hi;have YH:=hi.length;have TQ:∀H:Hp,Xv H->Ff K H a b9!->Lm P w H ak.heap->(∀b,H b≠none->b=a)->(H a≠none->K.lookup a=none)->
   codeAny J_ callerA nE! nE_ ak:=by
  intro H hO hS hok hA hK;have TR:∀{b:xK!} {o:Obj},ak.heap.get? b=some o->H b=none->(gD!).get? b=some o:=λe n=>b9m e n;have tz:∀{b:xK!} {o:Obj} {es:by_} {ep:Nat},ak.heap.get? b=some o->o.data=.dict es ep->H b=none:=λ{b o es ep} e d=>by
   cases q:H b with
   |none=>rfl
   |some u=>
    have e':b=a:=hA b cw!;subst e';rw[ha]at e;cases e;have d':Data.seq vs.toArray _=Data.dict es ep:=d;cases d'
  have wj:∀{b:xK!} {m:y_},ak.heap.Ns b m->(gD!).Ns b m:=λ{b m} ⟨o,es,ep,e,d,r⟩=>⟨o,es,ep,TR e (tz e d),d,r⟩;have TU:K.In gD!:=λb o e=>TR (KX b o e) (by
   cases q:H b with
   |none=>rfl
   |some u=>
    have e':b=a:=hA b cw!;subst e';rw[hK cw!]at e;cases e)
  have hM:Mod K mg gD!:=⟨TU,wj cf,⟨mb,wj Y,YE⟩,let⟨mc,B,J⟩:=YF;⟨mc,wj B,J⟩⟩;have e0:Qu P w K mg gD! callerA [] ak H:=⟨rfl,hM,λb o e=>c2x e,NC (b4s _ _),trivial,λb Y=>absurd (show b∈yL_ from Y) c_,hok,.of_eq hg⟩;refine OQ ((F _ TU (wj cf)).run callerA [] ak H nD_ bd_ bd_ _ _ hr e0 (YG ak S_) tc! (jj H hO hS)) λr s' h=>?_;cases r with
  |error e=>exact(t9 H e s' h).elim
  |ok fl=>
   cases fl with
   |next=>exact False.elim h
   |brk=>exact False.elim h
   |cont=>exact False.elim h
   |ret u=>
    obtain⟨v,H',os,bare,un,YI,r',q⟩:=h;have q':v=.bl true:=q;subst q';obtain rfl:u=Value.bool true:=r';refine⟨rfl,OldK.of_keep λb o e=>?_,os,bare⟩;cases q:H b with
    |none=>exact un.keep b o e q (by intro z;exact absurd tm! c_) c_
    |some u=>
     obtain z|⟨ob,xs,z⟩:=hO b
     .rw[q]at z;cases z
     .have z2:=un.frzs b ob _ z;obtain⟨e1,_⟩:=hok b _ z;obtain⟨e2,_⟩:=YI b _ z2;rw[e]at e1;cases e1;exact e2
 cases hk:K.lookup a with
 |some o=>
  have e:=KX a o hk;rw[ha]at e;cases e;refine TQ (λ_=>none) (λ_=>.inl rfl) (.inr ⟨_,cv!,_,hk,rfl,rfl,rfl,by rw[GW,YH];exact hl,by simpa using rv⟩) (λb u z=>by have z':(none:Option HO)=some u:=z;cases z') (λb z=>absurd rfl z) λz=>absurd rfl z
 |none=>
  refine TQ (λb=>if b=a then some (.frz {cls:=.type "list",data:=.seq cv!} (.lst b9!))else none) (λb=>?_) (.inl (.inr ⟨{cls:=.type "list",data:=.seq cv!},m_⟩)) (λb u z=>?_) (λb z=>?_) λ_=>hk
  .by_cases Y:b=a
   .exact .inr ⟨_,_,HB Y⟩
   .exact .inl (GS Y)
  .by_cases Y:b=a
   .have z':=(HB Y).symm.trans z;cases z';subst Y;exact⟨ha,uZ!,vs,_,rv,ha⟩
   .have z':=(GS Y).symm.trans z;cases z'
  .by_cases Y:b=a
   .exact Y
   .exact absurd (GS Y) z
end L2
namespace L2
open PySem PySem.Spec PyProof.Rows
def c1g{l:W.OpenLaw}{n k:Nat}{XP:nB_}{YP:nC!}{d:DefRec}{K:uZ_}{CX:World->Va}{sp:World->Sp}{x:Str}
  (hn:jo!)(j9:nt_)(t6:nD!)(hr:nI_)
  (hY:u1!)
  (F:∀(w:yt!) (mg:y_) (fa:xK!) (h:Heap),(bQ!).In h->h.Ns mainGlobals mg->mg d.name=some eZ!->
   ∃fd:FuncData,u0_/\
    ∀base:Heap,(bQ!).In base->base.Ns mainGlobals mg->Fe l.prog w bQ! mg base (CX w) k fa fd [x] (sp w))
  (jj:∀(w:yt!) (H:Hp) (a:xK!) (ns:z!),c1!<=n->Xv H->Ff bQ! H a b9!->sp w bd_ H jr! λ_ _ _=>False)
  (t9:∀(w:yt!) (H:Hp) (s:z2!) (e:ys!) (s':z2!),CX w [] H s gC_ e s'->False):
  W.WalkO q yy XP YP l.row.toRowW d [] nF!:=by
 refine Att.a7p hn t6 λw s₀ ak mg mb fa o pm cd bo a vs ns G gw ho hd bv kg yz hints ar hg=>?_;have KX:=hY w _ gw;obtain⟨fd,Y,hF⟩:=F w mg fa _ KX G.T.g kg;exact b8x KX G.T.g G.T.b G.T.builtins G.T.nolimit hg yz hints (IE ar j9) hr hF Y (λH hO hS=>jj w H a ns ar hO hS) λH e s'=>t9 w H ak e s'
def b5k{l:W.OpenLaw}{n k:Nat}{XP:nB_}{YP:nC!}{d:DefRec}{K:uZ_}{CX:Va}{sp:W.Frag->Sp}{x:Str}
  (hn:jo!)(j9:nt_)(t6:nD!)(hr:nI_)
  (hY:u1!)
  (F:∀(w:yt!) (mg:y_) (fa:xK!) (h:Heap),(bQ!).In h->h.Ns mainGlobals mg->mg d.name=some eZ!->
   ∃fd:FuncData,u0_/\
    ∀base:Heap,(bQ!).In base->base.Ns mainGlobals mg->Fe l.prog w bQ! mg base CX k fa fd [x] (sp bQ!))
  (jj:∀(K:z1!) (H:Hp) (a:xK!) (ns:z!),c1!<=n->Xv H->Ff K H a b9!->sp K bd_ H jr! λ_ _ _=>False)
  (t9:∀(H:Hp) (s:z2!) (e:ys!) (s':z2!),CX [] H s gC_ e s'->False):
  W.WalkO q yy XP YP l.row.toRowW d [] nF!:=
 c1g (K:=K) (CX:=λ_=>CX) (sp:=λw=>sp bQ!) hn j9 t6 hr hY F (λw H a ns B J h3=>jj bQ! H a ns B J h3) λ_ H s e s'=>t9 H s e s'
end L2
namespace L2
open PySem PySem.Spec PyProof.Rows
def Fi(s:Stmt):Arguments:=match s with
 |.FunctionDef _ a _ _ _ _ _ _ _ _=>a
 |_=>{posonlyargs:=[],args:=[],vararg:=none,kwonlyargs:=[],kw_defaults:=[],kwarg:=none,defaults:=[]}
def Cy(s:Stmt):List Stmt:=match s with
 |.FunctionDef _ _ b _ _ _ _ _ _ _=>b
 |_=>[]
def Ae(s:Stmt):Scope:=match s with
 |.FunctionDef _ _ _ _ _ _ sc _ _ _=>sc
 |_=>{kind:=.function,names:=[],isGenerator:=false,isCoroutine:=false}
abbrev Pf:Va:=λ_ _ _ _ _ _=>False
abbrev E0:XK:=λ_ _ _=>False
def vA{X:Cx}:Ju Pf X E0:=λ_ _ _ _ _ _ _ h=>h.elim
structure Wr(K:z1!)(x qual:Str)(st:Stmt)(f:xK!)(fd:FuncData):Prop where
 ex:∃(oc:ys!) (od:aJ_) (kV bo pm:ys!) (an:aJ_) (af ct:ys!) (dr:bP!),
  fd=W.fnOf x qual jt! bz! bg! .none kV bo pm an af ct/\K.lookup f=some ⟨oc,od,.func fd,dr⟩/\W.codeIn K af qual=true
 kp:W.keepIn K ah!=true
section
variable{P:z3!}{w:yt!}{K:z1!}{mg:Str->Option Value}{base:Heap}
def Wr.ok{x:Str}{st:Stmt}{f:xK!}{fd:FuncData}{ps:n!}{k:Nat}{sp:Sp}(F:u5!)(S:dc_)(len:tt_)
  (ql:∀(af:ys!) (A:xX!) (outer:V_) (s:z2!) (H:Hp) (vs:k!) (Q:VK) (E:XK),Ak k (A.deeper (envOfC qual bg! s.heap.objs.size f af))->sp vs H Q E->
   ∃t,Ov (Js Pf P w K mg base N qual bg! f af A outer s H E).nox bz! t/\t {nx:=λ_ H'=>Q .non H',rt:=Q} gs_ H):Fe P w K mg base Pf Q_ f fd ps sp:=by
 show"!B";refine c5p lk bv S len λA outer s H vs Q E hr jj=>?_;obtain⟨t,h,q⟩:=ql af A outer s H vs Q E hr jj;exact⟨t,h.nox,q⟩
def Wr.binds{x:Str}{st:Stmt}{f:xK!}{fd:FuncData}{ps:n!}(F:u5!)
  (h:u5_):Eu K fd ps []:=by
 show"!B";exact .all (h kV bo pm an af ct)
def nY{x:Str}{st:Stmt}{f:xK!}{od an:aJ_}{dr:bP!}{kV:ys!}(l:u6_)
  (c:i2_)(k:gE!):Wr K x qual st f nL!:=⟨⟨oc,od,kV,bo,pm,an,af,ct,dr,rfl,l,c⟩,k⟩
end
def b3c{n:Nat}(h:n<=1000):n<sizeLine:=KI h d!
def lB{A hb:Prop}(h:hb):if false=true then A else hb:=by rw[GS HM];exact h
def lA{A hb:Prop}(h:A):if true=true then A else hb:=by rw[m_];exact h
def Bf(H H':Hp):Prop:=∀b o,H b=some o->H' b=some o
def Bf.refl(H:Hp):Bf H H:=λ_ _ h=>h
def Bf.trans{H H1 H2:Hp}(a:Bf H H1)(b:Bf H1 H2):Bf H H2:=λc o h=>b c o (a c o h)
def Bf.free{H H':Hp}(e:e0_){l:xK!}(h:H' l=nL_):H l=nL_:=by
 cases q:H l with
 |none=>rfl
 |some o=>
  rw[e l o q]at h;cases h
def Bf.seq{K:z1!}{H H':Hp}{a:xK!}{xs:k!}(e:e0_)(h:Ff K H a xs):Ff K H' a xs:=by
 rcases h with(h|⟨o,h⟩)|h
 .exact u8_
 .exact u9!
 .exact .inr h
end L2
namespace L2
open PySem PySem.Spec PyProof.Rows
def Inv.track{X:Cx}{O:j!}{Z:St}{H:Hp}{s:z2!}{D:xK!}{ys:k!}{us:g_}{n:Nat}(I:c!)
  (hD:s.heap.get? D=some {cls:=.type "list",data:=.seq us.toArray n})(r:Ba ys us)(hz:jd_)(hn:H D=none)(hs:dz_<=D)(hL:D≠X.env.locals)
  (hc:∀x c,X.env.cells.lookup x=some c->c≠D)(hp:∀p∈X.pn++O,p.1≠D):Inv X O Z (upd H D aR_) s:=by
 have ne:∀b u,H b=some u->b≠D:=λb u e=>cC e hn;refine I.step (g':=s.gens) (d':=s.drawn) (t':=s.toks) (h':=s.heap) (ch:=[D]) h4_ (λb o _ _ _ e _=>e) (λb o _ _ _ e _=>nM!) (λb o hc e n=>?_) (λb o _ e=>nM_)
  (λb xs e=>by rw[nN!];exact e) (λb o u e=>by rw[nN!];exact e) (λb ps e=>⟨#[],by rw[nN!,e];simp⟩) nN_ q5_ I.bare
 .have e:b=D:=by simpa using Y
  subst e;exact⟨.inr hs,hL,hc,hp⟩
 .rw[nO!];exact n
 .by_cases Y:b=D
  .show"!x";exact⟨hz,us,n,r,hD⟩
  .rw[aY Y]at e;exact(lQ!).stay nO_ (λc q=>by rw[aY (ne c _ q)];exact q) λc xs q=>by rw[aY (ne c _ q)];exact q
nonrec def closOf(cells:bg_):List vc_->List e1!->List e1!
 |[],acc=>acc
 |(n,k)::r,acc=>if k==.free then closOf cells r ((n,(cells.lookup n).getD 0)::acc)else closOf cells r acc
structure Xx(X:Cx)(scope:Scope)(cl:bg_):Prop where
 eq:closureFor scope X.env=pure cl
 sub:∀x c,cl.lookup x=some c->X.env.cells.lookup x=some c
 all:∀x,scope.names.lookup x=some .free->∃c,cl.lookup x=some c
def rT{env:Env}:∀(names:e1_) (acc:bg_),(∀p∈names,p.2=.free->∃c,env.cells.lookup p.1=some c)->
  (forIn names acc λx r=>(match x with|(name,kind)=>if(kind==gE_)=true then(do let a <-cellOf env name;pure vd!)else pure ju_:Sem vd_))=(pure (closOf env.cells names acc):Sem (List e1!))
 |[],acc,_=>rfl
 |(n,k)::r,acc,h=>by
  rw[KY];cases hk:(k==gE_)with
  |true=>
   obtain⟨c,hc⟩:=h (n,k) GX vf!;have bn:env.cells.lookup n=some c:=hc;have e:cellOf env n=pure c:=by unfold cellOf;rw[bn]
   have ih:=rT r ((n,c)::acc) λp hp=>h p jv!;have e2:closOf env.cells ((n,k)::r) acc=closOf env.cells r ((n,c)::acc):=by
    show vf_;rw[a0_,bn];rfl
   rw[e2,<-ih];simp only[hk,IU,e];rfl
  |false=>
   have ih:=rT r acc λp hp=>h p jv!;have e2:closOf env.cells ((n,k)::r) acc=closOf env.cells r acc:=by
    show vf_;rw[GS (by rw[hk];exact HM)]
   rw[e2,<-ih];simp only[hk];rfl
def oB(cells:bg_):∀(names:e1_) (acc:bg_),(∀p∈names,p.2=.free->∃c,cells.lookup p.1=some c)->(∀p∈acc,cells.lookup p.1=some p.2)->∀p∈closOf cells names acc,cells.lookup p.1=some p.2
 |[],_,_,h=>h
 |(n,k)::r,acc,hn,h=>by
  unfold closOf;split
  .rename_i hk;obtain⟨c,hc⟩:=hn (n,k) GX vf!;refine oB cells r _ vg! λp hp=>?_;obtain rfl|hp:=GR.mp hp
   .have bn:cells.lookup n=some c:=hc;rw[bn];rfl
   .exact h p hp
  .exact oB cells r _ vg! h
def oE(cells:bg_):∀(names:e1_) (acc:bg_) (x:Str),(∃c,(x,c)∈acc)->∃c,(x,c)∈closOf cells names acc
 |[],_,_,h=>h
 |(n,k)::r,acc,x,h=>by
  unfold closOf;split
  .exact oE cells r _ x (let⟨c,hc⟩:=h;⟨c,GP _ hc⟩)
  .exact oE cells r _ x h
def oC(cells:bg_):∀(names:e1_) (acc:bg_) (x:Str),(x,gE_)∈names->∃c,(x,c)∈closOf cells names acc
 |[],_,_,h=>nomatch h
 |(n,k)::r,acc,x,h=>by
  unfold closOf;obtain h|h:=GR.mp h
  .cases h;rw[gF_];exact oE cells r _ _ ⟨_,GX⟩
  .split
   .exact vh_
   .exact vh_
def nF{β:Type}:∀{l:List (Str×β)} {x:Str} {c:β},(x,c)∈l->∃d,l.lookup x=some d
 |[],_,_,h=>nomatch h
 |(n,k)::r,x,c,h=>by
  cases hx:(x==n)with
  |true=>exact⟨k,by simp[IQ,hx]⟩
  |false=>
   obtain h|h:=GR.mp h
   .cases h;simp at hx
   .obtain⟨d,hd⟩:=nF h;exact⟨d,by simp[IQ,hx,hd]⟩
def b2p{X:Cx}{scope:Scope}(h:∀p∈ca!,p.2=.free->∃c,X.env.cells.lookup p.1=some c):∃cl,Xx X scope cl:=by
 refine⟨closOf X.env.cells scope.names [],?_,lM_,λx e=>?_⟩
 .have e:=rT (env:=X.env) scope.names [] h;simp only[closureFor];rw[show(forIn scope.names ([]:List e1!) λx r=>(match x with|(name,kind)=>if(kind==NameKind.free)=true then(do let a <-cellOf X.env name;pure vd!)else pure ju_:Sem vd_))=pure (closOf X.env.cells scope.names [])from e];rfl
 .exact oB X.env.cells scope.names [] h qY! (x,c) (KS e)
 .obtain⟨c,hc⟩:=oC X.env.cells scope.names [] x (KS e);exact nF hc
def Mu(X:Cx)(scope:Scope)(cl:bg_)(C:xK!)(N:n!)(am:z2!)(bc:Hp)(fp:J!):Cx:=
 {X with N:=N,s₀:=am,H₀:=bc,env:=compEnvC scope cl C X.env,outer:=X.stack,stack:=X.stack,ex:=fp,fn:=λ_=>false,pn:=[],xe:=λ_ _=>False}
def lR{env:Env}:∀{names:e1_} {x:Str},(∀y∈names,y.2≠.cell)->
  ((jw_).lookup x=some .cell\/
     (jw_).lookup x=some .free)->names.lookup x=some .free
 |[],_,_,h=>by simp at h
 |(n,k)::r,x,hc,h=>by
  have ih:=@lR env r x λy hy=>hc y cw_;have hk:k≠.cell:=hc (n,k) GX;rw[GY]at h;by_cases hf:nP!=true
  .simp only[hf,IU]at h;cases hx:x==n with
   |true=>
    simp only[IQ,hx];simp only[HZ,MH]at hf;rw[hf.1.1]
   |false=>
    simp only[IQ,hx]at h ⊢;exact ih h
  .simp only[hf]at h;cases hx:x==n with
   |true=>
    simp only[HX,IN,IQ,hx]at h ⊢;obtain h|h:=h
    .cases h;exact absurd rfl hk
    .exact h
   |false=>
    show"#,";exact ih h
def lS{env:Env}:∀{names:e1_} {x:Str},names.lookup x=some .free->
  ((jw_).lookup x=some .cell\/
     (jw_).lookup x=some .free)
 |[],_,h=>by simp at h
 |(n,k)::r,x,h=>by
  have ih:=@lS env r x;rw[GY];by_cases hf:nP!=true
  .simp only[hf,IU];cases hx:x==n with
   |true=>exact .inl (by simp[IQ,hx])
   |false=>
    simp only[IQ,hx]at h ⊢;exact ih h
  .simp only[hf];cases hx:x==n with
   |true=>
    show"#,";exact .inr h
   |false=>
    show"#,";exact ih h
structure Ee(X:Cx)(scope:Scope)(NF:n!)(ix:i_):Prop where
 len:NF.length=ix.length
 at_:∀(k:Nat) (x:Str),NF[k]?=some x->∃j,ix[k]?=some j/\X.N[j]?=some x/\scope.names.lookup x=some .free/\qP!
def Ee.nil{X:Cx}:Ee X scope [] []:=⟨rfl,λk x e=>by simp at e⟩
def Ee.cons{X:Cx}{scope:Scope}{j:Nat}{ix:i_}(h:dd!)(B:vm!:=by rfl)(J:scope.names.lookup x=some .free:=by rfl)
  (h3:X.env.kindOf x=some .cell\/X.env.kindOf x=some .free:=by first|exact Or.inl rfl|exact Or.inr rfl):Ee X scope (x::NF) (j::ix):=
 ⟨by simp[h.len],λk y e=>by
  cases k with
  |zero=>simp at e;subst e;exact⟨j,rfl,B,J,h3⟩
  |succ k=>simpa using h.at_ k y cP_⟩
def Ou(nl:Nat)(ix:i_)(Z:St):St:=List.replicate nl none++ix.map λj=>(Z[j]?).join
def c9a{X:Cx}{O:j!}{Z:St}{H2:Hp}{s2:z2!}{scope:Scope}{cl:bg_}{fp:J!}
  (cj:dd_)(ce:de!)(bz:nR!)(I2:nQ_)(f2:nQ!)(flt:vp_)(hC:O!<=C):
  (Mu X scope cl C N s2 H2 fp).Ok where
 mod:=I2.ok.mod
 kind:=cj
 glob:=I2.ok.glob
 blt:=I2.ok.blt
 above:=hC
 inj:=λx y c B J=>I2.ok.inj x y c (bz.sub x c B) (bz.sub y c J)
 has:=λx h=>bz.all x (lR ce h)
 cab:=λ_ _ h=>nomatch h
 hd:=I2.ok.hd
 frames:=I2.ok.frames
 stk:=.inl rfl
 exf:=λb Y=>⟨II (HP jy! hC),λx c h=>(ix!).2.2.2.2.1 x c gG_⟩
 bs:=I2.bs
 bsz:=IE I2.ok.bsz I2.sz
 noex:=λb o e Y=>by
  obtain z|z:=(ix!).2.2.2.1
  .exact I2.ok.noex b o e z
  .exact absurd (HP cR_ (IE I2.ok.bsz z)) dz!
 exfs:=λb Y hf=>by
  obtain⟨_,f1,f3,_⟩:=f2 b Y;obtain z|z:=GR.mp (I2.stkSub b hf)
  .exact f1 z
  .exact f3 z
 funs:=I2.stack
 frf:=I2.stkFree
def b9k{X:Cx}{O:j!}{Z:St}{H2:Hp}{s2:z2!}{scope:Scope}{cl:bg_}{D:xK!}{oD:Obj}{NL:n!}{ix:i_}{fp:J!}{h₁:Heap}{t:Nat}{m:y_}
  (cj:dd_)(ce:de!)(bz:nR!)(cap:dd!)(I2:nQ_)(f2:nQ!)(flt:vp_)
  (hC:O!<=C)(hD:O!<=D)(jn:D≠C)(old:∀b u,s2.heap.get? b=some u->h₁.get? b=some u)(hn:h₁.Ns C m)(yn:h₁.get? D=some oD)(yo:∀v,oD.data≠.cell v):
  Inv (Mu X scope cl C gH! s2 H2 fp) (bQ_++[(D,oD)]) nR_ H2 {s2 with heap:=h₁,toks:=t}:=by
 refine⟨c9a cj ce bz I2 f2 flt hC,rfl,I2.bare,Un.kept old,⟨m,hn,qW!⟩,λx c h=>?_,I2.hok.fresh hC,λx c h=>I2.freeC x c gG_,cS!,I2.hok.kept old,?_⟩
 .have TV:gH![i]?=some x:=e1;unfold Ou at e2;by_cases hi:i<NL.length
  .rw[JQ gu!,KM]at e2;rw[HB hi]at e2;cases e2
  .rw[eR_,IB,LF]at e2;rw[eR_]at TV;obtain⟨j,hj,hN,hf,hk⟩:=cap.at_ _ _ TV;rw[hj]at e2;have wk:(Z[j]?).join=some v:=IR e2;have e4:Z[j]?=some ba_:=by
    cases q:Z[j]? with
    |none=>rw[q]at wk;cases wk
    |some o=>rw[q]at wk;exact congrArg some wk
   obtain⟨m2,_,hl⟩:=I2.loc;have hv:Vi X.env.scope x:=hk.elim (λz=>.inr dU!) λz=>.inr e2!;obtain⟨u,r,l⟩:=hl j x v hN e4 hv;refine⟨u,r,.inr ?_⟩;obtain⟨k,_⟩|⟨_,c,hc,z⟩:=l
   .obtain z|z:=hk
    .rw[z]at k;cases k
    .rw[z]at k;cases k
   .obtain⟨c',bn⟩:=bz.all x hf;have e5:=bz.sub x c' bn;rw[hc]at e5;cases e5;obtain⟨o,ho,hd⟩:=z;exact⟨lS hf,c,bn,⟨o,old _ _ ho,hd⟩⟩
 .obtain⟨v,o,ho,hd⟩:=I2.cell x c gG_;exact⟨v,o,old _ _ ho,hd⟩
 .have TW:∀b,b≠X.env.locals->b∉X.fs->b∉frs X.stack:=λb B J h3=>(GR.mp (I2.stkSub b h3)).elim B J;have b6:p∈bQ_++[(D,oD)]:=by simpa[Mu]using hp
  obtain b6|b6:=GZ.mp b6
  .obtain⟨e,n,ne,nf,d⟩:=I2.pin p b6;exact⟨old _ _ e,n,II (HP cR_ hC),TW _ ne nf,d⟩
  .have e:p=(D,oD):=by simpa using b6
   subst e;exact⟨yn,I2.hok.fresh hD,jn,TW _ (NB (HP I2.lt hD)) (I2.nofs hD),yo⟩
 .show(nR_).length=(gH!).length;unfold Ou;rw[HE,HE,HG,LF,cap.len]
def a3w{R:sF_}{E:n_}(I:Nat->Shared->Prop)
  (hE:∀e s',E e s'->notedBy q! A env (λe s'=>R (.error e) s') e s')
  (turn:∀n s,I n s->wpAny q! A (pyNext it) (λr ak=>match r with
   |none=>R (.ok .next) ak
   |some v=>wpAny q! A (letOwnedTupleGo v8 it v) (λ_ TY=>wpAny q! A (assign v8 env v) (λ_ am=>
     wpAny q! A (forIn de true λc r=>if r=true then do let ok <-isTrue c env (eval c env);pure vs_ else pure ju_) (λok c9=>
      if ok=true then wpAny q! A (eval du env) (λx wm=>
       wpAny q! A (call (.builtin "list.append") [acc,x]) (λ_ TZ=>∃m,m<n/\I m TZ) E wm) E c9
      else∃m,m<n/\I m c9) E am) E TY) E ak) E s)
  (n:Nat) (h:I n s):codeAny q! A (.compLoop (.ListComp du [⟨v8,iter,de,0⟩] scope pos) 0 it acc env) R s:=by
 refine codeAny_loop rfl I (λn s hI=>?_) n h;refine wpAny_noted ?_;rw[compTurn_list];refine GM (PQ (GM (JH (turn n s hI) (λr ak h₁=>?_) hE)));cases r with
 |none=>exact GO h₁
 |some v=>
  refine GM (JH h₁ (λ_ TY YJ=>?_) hE);refine GM (JH YJ (λ_ am t3=>GM (JH t3 (λok c9 wf=>?_) hE)) hE);cases ok with
  |false=>exact GO ⟨rfl,wf⟩
  |true=>
   exact GM (GM (JH wf (λx wm YK=>GM (JH YK (λ_ TZ YL=>GO (GO ⟨rfl,YL⟩)) hE)) hE))
def Pe(X:Cx)(de:bK!)(t:TT):Prop:=
 ∀(O:j!) (s:z2!) (Z:St) (H:Hp) (Q:dB!),Inv X O Z H s->t Z H Q->
  wpAny e! X.A (forIn de true λc r=>if r=true then do let ok <-isTrue c X.env (eval c X.env);pure vs_ else pure ju_) ib! X.xe s
def AH:TT:=λ_ H Q=>Q true H
def a5i{X:Cx}:Pe X [] AH:=λO s Z H Q I h=>wpAny_tests_nil ⟨H,I,h⟩
def a5h{X:Cx}{t:TT}(h:PT X c t):Pe X [c] t:=λO s Z H Q I hw=>wpAny_tests_one ry!
def Uz(ac:It)(g:TG)(tt:TT)(te:TE)(Fin:cT_)(Z:St)(H:Hp):Prop:=∃W:Nat->Nat->List V->St->Hp->Prop,(∃m,W 0 m [] Z H)/\∀i m ys Z H,W i m ys Z H->X_<=sizeLine/\
 ((ac.stop i H/\Fin ys H)\/(ac.go i H/\∀x H',ac.yld i H x H'->g x Z H' λdb H2=>tt db H2 λb H3=>if b=true then te db H3 λy H4=>∃m',m'<m/\W aY_ m' (ys++[y]) db H4 else∃m',m'<m/\W aY_ m' ys db H3))
abbrev Tj(us:g_)(n:Nat):Obj:={cls:=.type "list",data:=.seq us.toArray n}
def zX{X:Cx}{scope:Scope}{NL:n!}{ix:i_}{cl:bg_}{g:TG}{tt:TT}{te:TE}{E:n_}
  {O:j!}{Z:St}{H2:Hp}{s2:z2!}{fp:J!}{tn:dD!}{ac:It}{Fin:cT_}{RR:Value->Addr->Result->Shared->Prop}
  (cj:dd_)(ce:de!)(bz:nR!)(cap:dd!)(calm:bb_)
  (hg:∀C am bc fp,PG ca_ tg g)(hi:∀C am bc fp,Pe ca_ de tt)(he:∀C am bc fp,PE ca_ du te)
  (I2:nQ_)(T:Qy X.prog X.w X.K tg ac fp it tn)(bi:tn 0 s2.heap)(f2:nQ!)(hw:Uz ac g tt te Fin nR_ H2)
  (YM:∀(D C:xK!) (us:g_) (n:Nat) (ys:k!) (H':Hp) (s':z2!),Inv X O Z H' s'->s'.heap.get? D=some (Tj us n)->Ba ys us->X_<=sizeLine->H' D=none->O!<=D->O!<=C->D≠C->H' C=none->
   (∃m,s'.heap.Ns C m)->Fin ys H'->RR (.ref D) C (.ok .next) s'):
  wpAny e! X.A (newList []) (λacc c9=>wpAny e! X.A (newFunctionEnv scope X.env.globals cl [] X.env.qual none .none (some X.env)) (λUA wm=>
   codeAny e! X.A (.compStart gI! 0 b2_ acc {UA with scope:=relabel scope X.env}) (RR acc UA.locals) wm) E c9) E s2:=by
 obtain⟨W,⟨m0,w0⟩,turn⟩:=hw;have flt:∀b∈fp,b<O!:=λb Y=>let⟨o,e,_⟩:=T.obj _ _ bi b Y;HR e;refine JN (wpAny_newFunctionEnv ce (by intro y hy;simp at hy) (λh₁ y7 wp=>?_) cj);dsimp only at y7 wp ⊢;generalize y9:s2.heap.push {cls:=.type "list",dict:=none,data:=.seq (vw!).toArray}=G2 at y7 wp ⊢;have hC:gI_=O!+1:=by rw[<-y9,MF]
 have jn:O!≠gI_:=by rw[hC];exact II bs_
 have UB:O!<=gI_:=by rw[hC];exact NY _
 have UC:∀b,b<O!->b≠gI_:=λb Y=>by rw[hC];exact II (Nat.lt_succ_of_lt Y)
 have old:∀b o,s2.heap.get? b=some o->h₁.get? b=some o:=λb o e=>wp.extBut b o (UC b cR_) (GQ _ (y9▸GQ _ e));have YN:h₁.get? O!=some (Tj [] 0):=wp.extBut _ _ jn (GQ _ (y9▸HN _ rfl));have kh:tn 0 h₁:=T.keep _ _ _ bi λb _ o e=>old b o e;have I1:=b9k (NL:=NL) (t:=s2.toks+(vw_).length) cj ce bz cap I2 f2 flt UB x_ jn old y7 YN vx!;have nj:∀{H':Hp} {oD:Obj},f9!->∀b∈fp,Ii dU_ (bQ_++[(O!,oD)]) H' b:=λ{H' oD} hn b Y=>by
  obtain⟨_,f1,f3,f4,f5,f6⟩:=f2 b Y;refine⟨hn b Y,UC b jy!,λz=>(GR.mp (I2.stkSub b z)).elim f1 f3,.inl Y,λx c h=>f5 x c gG_,cS!⟩;have b6:p∈bQ_++[(O!,oD)]:=by simpa[Mu]using hp
  obtain b6|b6:=GZ.mp b6
  .exact f6 p b6
  .have e:p=(O!,oD):=by simpa using b6
   subst e;exact NB jy!
 have UD:∀c9:Shared,c9={s2 with heap:=h₁,toks:=s2.toks+(vw_).length}->
   codeAny e! X.A (.compLoop gI! 0 b2_ (.ref O!) (compEnvC scope cl G2.objs.size X.env)) (RR (.ref O!) gI_) c9:=by
  rintro c9 rfl;refine a3w (E:=vz_) (λk s'=>∃i ys us n h2 H',Inv dU_ (bQ_++[jD!]) h2 H' s'/\tn i s'.heap/\f9!/\Ba ys us/\W i k ys h2 H')
   (λ_ _ z=>z.elim) ?_ m0 ⟨0,[],[],0,_,H2,I1,kh,r9!,.nil,w0⟩
  rintro k s' ⟨i,ys,us,n,h2,H',I',h1,UE,rv,w'⟩;obtain⟨ar,zc⟩:=turn i k ys h2 H' w';obtain⟨stop,fin⟩|⟨go,step⟩:=zc
  .refine dA (T.done dU_ rfl rfl rfl calm i _ s' h2 H' _ I' (nj UE) h1 stop) λr s4 ⟨hr,I4⟩=>?_;subst hr;have UF:=I4.pin jD! (by simp[Mu]);have IX:Inv X O Z H' s4:=I2.call' (ch:=fp) I4.os I4.base I4.hok I4.bare λb Y=>by
    obtain⟨_,f1,f3,f4,f5,f6⟩:=f2 b Y;exact⟨f4,f1,f5,f6⟩
   obtain⟨mC,YO,_⟩:=I4.loc;exact YM _ _ us n ys H' s4 IX UF.1 rv ar UF.2.1 x_ UB jn I4.free ⟨mC,YO⟩ fin
  .refine dA (T.item dU_ rfl rfl rfl calm i _ s' h2 H' _ I' (nj UE) h1 go) λr s4 ⟨u,hr,h4⟩=>?_;subst hr;refine dA h4 λ_ s5 ⟨x,H5,I5,r5,y5,nu,yj⟩=>?_;have yk:=I5.pinned (nj yj) sb!;refine dA (hg _ _ _ _ _ s5 h2 H5 x u _ yk r5 sb_) λ_ s6 ⟨mh,H6,I6,q6⟩=>?_;refine dA (hi _ _ _ _ _ s6 mh H6 _ I6 q6) λok s7 ⟨H7,I7,q7⟩=>?_;have UG:∀{UH:St} {H8:Hp} {s8:z2!},Inv dU_ ((bQ_++[jD!])++Qh fp s5.heap) UH H8 s8->tn aY_ s8.heap/\∀b∈fp,H8 b=none:=λ{UH H8 s8} I8=>by
    refine⟨T.keep _ _ _ nu λb Y o e=>(vA!).1,bq_⟩;obtain⟨o,e,d⟩:=T.obj _ _ nu b Y;exact(vA!).2.1
   cases ok with
   |false=>
    simp only[HX,IN]at q7 ⊢;obtain⟨m',hm,w7⟩:=q7;obtain⟨t7,n7⟩:=UG I7;exact⟨m',hm,i+1,ys,us,n,mh,H7,iy_,t7,n7,rv,w7⟩
   |true=>
    simp only[IU]at q7 ⊢;refine dA (he _ _ _ _ _ s7 mh H7 _ I7 q7) λyv s8 ⟨y,H8,I8,r8,m',hm,w8⟩=>?_;obtain⟨t8,n8⟩:=UG I8;have pD:=I8.pin jD! (HD _ (HQ _ c_));have YQ:as!=X_:=rv.length.symm;refine wpAny_list_append_plain (items:=cx!) (hsz:=by simpa[YQ]using ar) ⟨n,pD.1⟩ λh9 YR UI=>?_;obtain⟨n9,e9⟩:=YR;have YS:Inv dU_ bQ_ mh H8 s8:=I8.pins_of λp hp=>I8.pin p (HD _ (HQ _ iw!));have I9:Inv dU_ bQ_ mh H8 {s8 with heap:=h9,toks:=s8.toks}:=by
     refine YS.turned (it:=O!) (λb o Y e=>(UI.2 b Y).trans e) pD.2.1 jn (.inr x_) (λx c h=>?_) λp hp=>?_
     .obtain⟨v,o,ho,_⟩:=I2.cell x c gG_;exact II hZ!
     .have b6:p∈X.pn++O:=by simpa[Mu]using hp
      exact II (HR (I2.pin p b6).1)
    have YT:h9.get? O!=some (Tj (us++[yv]) n9):=by
     rw[e9,List.push_toArray]
    refine⟨m',hm,i+1,ys++[y],us++[yv],n9,mh,H8,I9.pins_of λp hp=>?_,T.keep _ _ _ t8 λb Y o e=>(UI.2 b (II jy!)).trans e,n8,rv.append (.cons r8 .nil),w8⟩;obtain hp|hp:=GZ.mp hp
    .exact I9.pin p (HD _ hp)
    .have e:p=(O!,Tj (us++[yv]) n9):=by simpa using hp
     subst e;exact⟨YT,pD.2.1,pD.2.2.1,pD.2.2.2.1,jF_⟩
 exact codeAny_compStart_list (UD _ rfl) (T.self _ 0 _ _ _ kh (UD _ rfl))
def Yf(nl:Nat)(ix:i_)(wi:TI)(g:TG)(tt:TT)(te:TE):TE:=λZ H Q=>wi Z H λac H1=>Uz ac g tt te (λys H'=>∀p,H' p=none->Q c2_ (upd H' p aR_)) (Ou nl ix Z) H1
def b1l{X:Cx}{scope:Scope}{NL:n!}{ix:i_}{wi:TI}{g:TG}{tt:TT}{te:TE}
  (cj:dd_)(ce:de!)(kj:∀y∈ca!,y.2=.local->scope.names.lookup y.1=some .local)
  (il:gJ_)(cap:dd!)(calm:bb_)(a9:mt!)
  (hg:gK!)(hi:vE!)(he:vE_)
  (hs:cX_:=by intro _;rfl):
  PE X gI! vF!:=by
 show"!G";show"!T"
 rw[eval_ListComp];refine wpAny_comprehension_free (use:=none) rfl hs bz.eq cj kj vF_;obtain⟨it,fp,tn,ac,H2,e,I2,T,bi,f2,hw⟩:=J;subst e;refine zX (RR:=λacc C=>compPost e! X.A X.xe none aG! acc C) cj ce bz cap calm (hg cl) (hi cl) (he cl) I2 T bi f2 hw λD C us n ys H' s' I' eD rv ar nD hD hC jn nC ⟨m,hn⟩ fin=>?_;refine⟨m,hn,λh' cn=>?_⟩;have fh:∀b,b<O!->b≠C/\b≠D:=λb Y=>vG!;have qq:∀x c,X.env.cells.lookup x=some c->c<O!:=λx c h=>let⟨_,_,ho,_⟩:=I2.cell x c h;HR ho;have ua:∀p∈X.pn++O,p.1<O!:=λp hp=>HR (I2.pin p hp).1;have IC:Inv X O Z H' {s' with heap:=h',toks:=s'.toks}:=I'.turned (it:=C) vG_ nC (GT (gK_).1) vH! vI! λp hp=>(jG!).1;have ID:=IC.track (D:=D) (us:=us) (n:=n) ((cn.2 D jn).trans eD) rv ar nD (IE I2.sz hD) (GT (gK_).2) vI_ λp hp=>(jG!).2;exact⟨.ref D,_,ID,rfl,fin D nD⟩
end L2
namespace DL
open PySem PySem.Spec PyProof.Rows L2
abbrev St:=L2.St
inductive D where
 |non|bl (b:Bool)|int (i:Int)|str (x:Str)|tup (xs:a_)|lst (xs:a_)|fn (a:xK!)|dk (kvs:nU!)
mutual
noncomputable def Ar(K:z1!)(H:Hp):D->V->Prop
 |.non,v=>v=V.non
 |.bl b,v=>v=V.bl b
 |.int i,v=>v=V.int i
 |.str x,v=>v=V.str x
 |.tup xs,v=>∃a vs,v=V.ref a/\Gd K H a vs/\Am K H xs vs
 |.lst xs,v=>∃a vs,v=V.ref a/\Ff K H a vs/\Am K H xs vs
 |.fn a,v=>v=V.ref a
 |.dk kvs,v=>∃a,v=V.ref a/\Rd H a dH!
noncomputable def Am(K:z1!)(H:Hp):List D->List V->Prop
 |[],vs=>vs=[]
 |d::ds,vs=>∃v r,vs=v::r/\Ar K H d v/\Am K H ds r
end
mutual
noncomputable def Eg:D->Bool
 |.lst _=>false
 |.dk _=>false
 |.tup xs=>Fa xs
 |_=>true
noncomputable def Fa:List D->Bool
 |[]=>true
 |d::ds=>Eg d&&Fa ds
end
mutual
noncomputable def Gs:D->Nat
 |.lst xs=>Dq xs+1
 |.tup xs=>Dq xs+1
 |_=>0
noncomputable def Dq:List D->Nat
 |[]=>0
 |d::ds=>max (Gs d) (Dq ds)
end
section
variable{K:z1!}{H H':Hp}
mutual
theorem Ar.map(ht:jG_)(hl:vJ!)(hd:vJ_):∀(d:D) (v:V),Ar K H d v->Ar K H' d v
 |.non,_,h=>h
 |.bl _,_,h=>h
 |.int _,_,h=>h
 |.str _,_,h=>h
 |.tup xs,_,h=>by
  show"!W";exact⟨a,vs,e,ht a vs q,vK!⟩
 |.lst xs,_,h=>by
  show"!W";exact⟨a,vs,e,hl a vs q,vK!⟩
 |.fn _,_,h=>h
 |.dk kvs,_,h=>by
  unfold Ar at h ⊢;obtain⟨a,e,q⟩:=h;exact⟨a,e,hd a kvs q⟩
theorem Am.map(ht:jG_)(hl:vJ!)(hd:vJ_):∀(ds:a_) (vs:k!),Am K H ds vs->Am K H' ds vs
 |[],_,h=>h
 |d::ds,_,h=>by
  unfold Am at h ⊢;obtain⟨v,r,e,q,t⟩:=h;exact⟨v,r,e,Ar.map ht hl hd d v q,Am.map ht hl hd ds r t⟩
end
mutual
theorem Ar.mapT(ht:jG_):∀(d:D) (v:V),Eg d=true->Ar K H d v->Ar K H' d v
 |.non,_,_,h=>h
 |.bl _,_,_,h=>h
 |.int _,_,_,h=>h
 |.str _,_,_,h=>h
 |.tup xs,_,n,h=>by
  unfold Eg at n;show"!W";exact⟨a,vs,e,ht a vs q,Am.mapT ht xs vs n r⟩
 |.lst xs,_,n,_=>by
  unfold Eg at n;cases n
 |.fn _,_,_,h=>h
 |.dk _,_,n,_=>by
  unfold Eg at n;cases n
theorem Am.mapT(ht:jG_):∀(ds:a_) (vs:k!),Fa ds=true->Am K H ds vs->Am K H' ds vs
 |[],_,_,h=>h
 |d::ds,_,n,h=>by
  unfold Fa at n;rw[HZ]at n;unfold Am at h ⊢;obtain⟨v,r,e,q,t⟩:=h;exact⟨v,r,e,Ar.mapT ht d v n.1 q,Am.mapT ht ds r n.2 t⟩
end
def bS(e:e0_){a:xK!}(h:Gd K H a xs):Gd K H' a xs:=by
 rcases h with(h|⟨o,h⟩)|h
 .exact u8_
 .exact u9!
 .exact .inr h
def b0v(e:e0_){a:xK!}{o:HO}(h:Rd H a o):Rd H' a o:=by
 obtain h|⟨u,h⟩:=h
 .exact .inl (e _ _ h)
 .exact .inr ⟨u,e _ _ h⟩
def Ar.mono(e:e0_)(h:gL!):Ar K H' d v:=Ar.map vK_ vL! vL_ d v h
def Am.mono(e:e0_)(h:cx_):Am K H' ds vs:=Am.map vK_ vL! vL_ ds vs h
def Ar.non:Ar K H .non V.non:=by unfold Ar;rfl
def Ar.bl{b:Bool}:Ar K H bK_ (V.bl b):=by unfold Ar;rfl
def Ar.int{i:Int}:Ar K H bp_ (V.int i):=by unfold Ar;rfl
def Ar.str:Ar K H cU_ (V.str x):=by unfold Ar;rfl
def Ar.fn{a:xK!}:Ar K H df_ gL_:=by unfold Ar;rfl
def Ar.tup{a:xK!}(h:Gd K H a vs)(r:cx_):Ar K H dg! gL_:=by unfold Ar;exact vM_
def Ar.lst{a:xK!}(h:Ff K H a vs)(r:cx_):Ar K H cy! gL_:=by unfold Ar;exact vM_
def Am.nil:Am K H [] []:=by unfold Am;rfl
def Am.cons(h:gL!)(t:cx_):Am K H dV_ (v::vs):=by unfold Am;exact⟨v,vs,rfl,h,t⟩
def aJ:∀{ds:a_} {vs:k!},Am K H ds vs->f_=bd!
 |[],vs,h=>by unfold Am at h;subst h;rfl
 |d::ds,vs,h=>by
  unfold Am at h;obtain⟨v,r,e,_,t⟩:=h;rw[e,HA,HA,aJ t]
def fQ:∀{ds:a_} {vs:k!} {i:Nat} {d:D},Am K H ds vs->ds[i]?=some d->∃v,vs[i]?=some v/\Ar K H d v
 |[],_,_,_,_,e=>by simp at e
 |c::ds,vs,i,d,h,e=>by
  unfold Am at h;obtain⟨v,r,e1,q,t⟩:=h;subst e1;cases i with
  |zero=>simp at e;subst e;exact⟨v,rfl,q⟩
  |succ i=>
   obtain⟨u,B,J⟩:=fQ (i:=i) (d:=d) t cP_;exact⟨u,hN_,J⟩
def cW:∀{ds es:a_} {vs ws:k!},Am K H ds vs->Am K H es ws->Am K H (ds++es) (vs++ws)
 |[],_,_,_,h,k=>by unfold Am at h;subst h;exact k
 |c::ds,_,vs,_,h,k=>by
  show"!L";exact Am.cons q (cW t k)
def mK:∀{ds:a_} {vs:k!} (n:Nat),Am K H ds vs->Am K H (ds.take n) (vs.take n)
 |_,_,0,_=>Am.nil
 |[],_,n+1,h=>by unfold Am at h;subst h;exact Am.nil
 |c::ds,vs,n+1,h=>by
  show"!L";exact Am.cons q (mK n t)
def qQ:∀{ds:a_} {vs:k!} (n:Nat),Am K H ds vs->Am K H nV_ (vs.drop n)
 |_,_,0,h=>h
 |[],_,n+1,h=>by unfold Am at h;subst h;exact Am.nil
 |c::ds,vs,n+1,h=>by
  show"!L";exact qQ n t
def uT(hd:gL!):∀{ds:a_} {vs:k!} (n:Nat),Am K H ds vs->Am K H (ds.set n d) (vs.set n v)
 |[],_,_,h=>by unfold Am at h;subst h;exact Am.nil
 |c::ds,vs,n,h=>by
  unfold Am at h;obtain⟨u,r,e1,q,t⟩:=h;subst e1;cases n with
  |zero=>exact Am.cons hd t
  |succ n=>exact Am.cons q (uT hd n t)
def cM(h:Am K H [] vs):vs=[]:=by unfold Am at h;exact h
def bJ(h:Am K H dV_ vs):∃v r,vs=v::r/\Ar K H d v/\Am K H ds r:=by unfold Am at h;exact h
def bO(h:Ar K H dg! v):∃a vs,v=V.ref a/\Gd K H a vs/\Am K H ds vs:=by unfold Ar at h;exact h
def bQ(h:Ar K H cy! v):∃a vs,v=V.ref a/\Ff K H a vs/\Am K H ds vs:=by unfold Ar at h;exact h
def bA{i:Int}(h:Ar K H bp_ v):v=V.int i:=by unfold Ar at h;exact h
def cV{i:Bool}(h:Ar K H (.bl i) v):v=V.bl i:=by unfold Ar at h;exact h
def bY(h:Ar K H jH_ v):v=V.str i:=by unfold Ar at h;exact h
def dY(h:Ar K H .non v):v=V.non:=by unfold Ar at h;exact h
def fP{a:xK!}(h:Ar K H df_ v):v=V.ref a:=by unfold Ar at h;exact h
def c6f{kvs:nU!}(h:Ar K H (.dk kvs) v):∃a,v=V.ref a/\Rd H a dH!:=by unfold Ar at h;exact h
def iD{o:HO}(h:cy_):Bf H e5_:=λb u e=>by rw[aY (cC e h)];exact e
def fL(h:cy_)(r:cx_):Ar K (upd H p (.tup vs)) dg! nW!:=Ar.tup (Gd.of bR) vO_
def dX(h:cy_)(r:cx_):Ar K jK_ cy! nW!:=Ar.lst (Ff.of bR) vO_
end
structure Cm(G H G' H':Hp):Prop where
 g:Bf G G'
 h:Bf H H'
 sub:Bf G' H'
 new:∀b,G' b≠none->G b≠none\/H b=none
def Cm.refl{G H:Hp}(s:L!):Cm G H G H:=⟨e6!,Bf.refl H,s,jL!⟩
def Cm.trans{G H G1 H1 G2 H2:Hp}(a:Cm G H G1 H1)(b:Cm G1 H1 G2 H2):Cm G H G2 H2:=
 ⟨a.g.trans b.g,a.h.trans b.h,b.sub,λc h=>(b.new c h).elim (λz=>a.new c z) λz=>.inr (a.h.free z)⟩
def Cm.laid{G H:Hp}{o:HO}(s:L!)(hp:cy_):Cm G H (upd G p o) e5_:=by
 refine⟨iD (s.free hp),iD hp,jL_,bh_⟩
 .by_cases Y:b=p
  .subst Y;rw[bR]at e ⊢;exact e
  .rw[aY Y]at e ⊢;exact s b u e
 .by_cases Y:b=p
  .subst Y;exact .inr hp
  .rw[aY Y]at h;exact .inl h
abbrev Ad:=List (Option D)
structure OR(K:z1!)(own:i_)(G H:Hp)(Z:St)(ρ:Ad):Prop where
 sub:Bf G H
 len:gM_=ev_
 at_:∀(i:Nat) (d:D),ρ[i]?=some dh!->i∉own->∃v,Z[i]?=some ba_/\Ar K G d v
 own_:∀i∈own,∃p ds vs,ρ[i]?=some nW_/\Z[i]?=some cb_/\H p=some dg_/\G p=none/\Am K G ds vs
 dis:∀i∈own,∀j∈own,i≠j->∀p q,Z[i]?=some cb_->Z[j]?=some (some (V.ref q))->p≠q
def OR.grow{K:z1!}{own:i_}{G H G' H':Hp}{Z:St}{ρ:Ad}(h:cc!)(x:jM!):OR K own G' H' Z ρ where
 sub:=x.sub
 len:=h.len
 at_:=λi d q n=>let⟨v,B,J⟩:=h.at_ i d q n;vP_
 own_:=λi hi=>by
  obtain⟨p,ds,vs,B,J,h3,h4,h5⟩:=h.own_ i hi;refine⟨p,ds,vs,B,J,x.h _ _ h3,?_,h5.mono x.g⟩;cases q:G' p with
  |none=>rfl
  |some o=>
   rcases x.new p cw! with z|z
   .exact absurd h4 z
   .rw[h3]at z;cases z
 dis:=h.dis
def OR.set{K:z1!}{own:i_}{G H:Hp}{Z:St}{ρ:Ad}{i:Nat}(h:cc!)(hi:aT!)(r:cz!):OR K own G H ex_ bR_ where
 sub:=h.sub
 len:=by rw[KW,KW,h.len]
 at_:=λj c q n=>by
  by_cases hj:i=j
  .subst hj;by_cases hi:i<gM_
   .rw[IL hi]at q;cases q;exact⟨v,by rw[IL (by rw[<-h.len];exact hi)],r⟩
   .rw[JE (by rw[KW];omega)]at q;cases q
  .rw[IA hj]at q;rw[IA hj];exact h.at_ j c q n
 own_:=λj hj=>by
  have ne:i≠j:=λe=>hi (e▸hj);rw[IA ne,IA ne];exact h.own_ j hj
 dis:=λj hj k hk hne p q e1 e2=>by
  have ne:i≠j:=λe=>hi (e▸hj);have YU:i≠k:=λe=>hi (e▸hk);rw[IA ne]at e1;rw[IA YU]at e2;exact h.dis j hj k hk hne p q e1 e2
def Jb(own:i_)(Z:St):List Addr:=own.filterMap λi=>match Z[i]? with|some (some (V.ref p))=>some p|_=>none
def mU{own:i_}{Z:St}(h:p∈Jb own Z):∃i∈own,Z[i]?=some cb_:=by
 obtain⟨i,hi,e⟩:=LW.mp h;refine⟨i,hi,?_⟩;show"!7"
 .rename_i q he;cases e;exact he
 .cases e
def a4t{own:i_}{Z:St}{i:Nat}(hi:dW_)(h:vQ_):p∈Jb own Z:=LW.mpr ⟨i,hi,by rw[h]⟩
def Kh(own:i_)(Z:St)(G H:Hp):Hp:=λb=>if b∈Jb own Z then H b else G b
def OR.full{K:z1!}{own:i_}{G H:Hp}{Z:St}{ρ:Ad}(h:cc!):OR K [] e6_ H Z ρ:=by
 have s1:Bf G e6_:=λb o e=>by
  unfold Kh;split
  .exact h.sub b o e
  .exact e
 have s2:Bf e6_ H:=λb o e=>by
  unfold Kh at e;show"!7"
  .exact e
  .exact h.sub b o e
 refine⟨s2,h.len,nX!,an_,an_⟩;by_cases hi:i∈own
 .obtain⟨p,ds,vs,B,J,h3,h4,h5⟩:=h.own_ i hi;rw[B]at q;cases q;refine⟨_,J,Ar.lst (Ff.of (xs:=vs) ?_) (h5.mono s1)⟩;unfold Kh;rw[HB (a4t hi J)];exact h3
 .obtain⟨v,B,J⟩:=h.at_ i d q hi;exact⟨v,B,J.mono s1⟩
def Le(ρ ρ':Ad):Prop:=gM_=ρ'.length/\∀(i:Nat) (d:D),ρ[i]?=some dh!->ρ'[i]?=some dh!
def OR.le{K:z1!}{G H:Hp}{Z:St}{ρ ρ':Ad}(h:OR K [] G H Z ρ')(l:Le ρ ρ'):OR K [] G H Z ρ:=⟨h.sub,l.1.trans h.len,λi d q n=>h.at_ i d (l.2 i d q) n,an_,an_⟩
def Le.set{ρ ρ':Ad}{i:Nat}(h:Le ρ ρ')(hi:ρ[i]?=some none):Le ρ (ρ'.set i dh!):=by
 refine⟨by rw[KW];exact h.1,λj c q=>?_⟩;have:i≠j:=λe=>by subst e;rw[hi]at q;cases q
 rw[IA this];exact h.2 j c q
def Le.refl(ρ:Ad):Le ρ ρ:=⟨rfl,λ_ _ h=>h⟩
def Xs(nl:Nat)(ix:i_)(ρ:Ad):Ad:=List.replicate nl none++ix.map λj=>(ρ[j]?).join
def OR.cap{K:z1!}{own:i_}{G H:Hp}{Z:St}{ρ:Ad}(h:cc!)(nl:Nat)(ix:i_)(hx:jN!):OR K [] G H (Ou nl ix Z) nY!:=by
 unfold Ou Xs;refine⟨h.sub,F!,nX!,an_,an_⟩;by_cases hi:i<nl
 .rw[JQ gu!,KM,HB hi]at q;cases q
 .rw[eR_,IB,LF]at q;rw[eR_,IB,LF];cases e:ix[i - nl]? with
  |none=>rw[e]at q;cases q
  |some j=>
   rw[e]at q;have q':(ρ[j]?).join=some d:=IR q;have q2:ρ[j]?=some dh!:=by
    cases z:ρ[j]? with
    |none=>rw[z]at q';cases q'
    |some o=>rw[z]at q';exact congrArg some q'
   obtain⟨v,B,J⟩:=h.at_ j d q2 (hx j (MU e));exact⟨v,by simp[B],J⟩
inductive tD(K:z1!)(own:i_)(f:e_)(Z:St)(H:Hp)(Q:VK):Prop
 |mk (G:Hp) (ρ:Ad) (d:D) (o:cc!) (e:cz_) (k:∀v G' H',Cm G H G' H'->Ar K G' d v->Q v H'):tD K own f Z H Q
inductive FA(K:z1!)(own:i_)(f:ao!)(Z:St)(H:Hp)(Q:cT_):Prop
 |mk (G:Hp) (ρ:Ad) (ds:a_) (o:cc!) (e:f ρ=some ds) (k:∀vs G' H',Cm G H G' H'->Am K G' ds vs->Q vs H'):FA K own f Z H Q
inductive Yw(K:z1!)(own:i_)(f:aj!)(Z:St)(H:Hp)(Q:dB!):Prop
 |mk (G:Hp) (ρ:Ad) (b:Bool) (o:cc!) (e:f ρ=some b) (k:∀G' H',Cm G H G' H'->Q b H'):Yw K own f Z H Q
structure DE(X:Cx)(own:i_)(e:Expr)(f:e_):Prop where
 ok:PE X e (tD X.K own f)
structure DA(X:Cx)(own:i_)(es:bK!)(f:ao!):Prop where
 ok:PA X es (FA X.K own f)
structure DT(X:Cx)(own:i_)(e:Expr)(f:aj!):Prop where
 ok:PT X e vT_
structure DW(X:Cx)(own:i_)(e:Expr)(f:aj!):Prop where
 ok:PW X e vT_
section
variable{X:Cx}{own:List Nat}{e a b c:Expr}{es:List Expr}{pos:Pos}{f fa fb fc:Ad->Option D}{fs:Ad->Option (List D)}{ft fu:Ad->Option Bool}
def eL{t:TE}(h:id!)(hw:∀Z G H Q ρ d,OR X.K own G H Z ρ->f ρ=some d->(∀v G' H',Cm G H G' H'->Ar X.K G' d v->Q v H')->t Z H Q):DE X own e f:=vU!
def c0l{t:TA}(h:gm_)(hw:∀Z G H Q ρ d,OR X.K own G H Z ρ->fs ρ=some d->(∀v G' H',Cm G H G' H'->Am X.K G' d v->Q v H')->t Z H Q):DA X own es fs:=⟨λp O s Z H Q I ⟨G,ρ,d,er,e,k⟩=>h p O s Z H Q I nZ!⟩
def wN{t:TT}(h:PT X e t)(hw:vU_):DT X own e ft:=vU!
def c5r{t:TT}(h:PW X e t)(hw:vU_):DW X own e ft:=⟨λwh O s Z H Q I ⟨G,ρ,d,er,e,k⟩=>h wh O s Z H Q I nZ!⟩
def Nq(f:e_):Ad->Option D:=λρ=>(aj_).bind λd=>if Eg d then some d else none
def b2m(h:DE X [] e f):DE X own e (Nq f):=eL h.ok λZ G H Q ρ d er e k=>by
 obtain⟨d',e1,e2⟩:=GN.mp e;split at e2
 .rename_i hn;cases e2;refine⟨Kh own Z G H,ρ,d,er.full,e1,λv G' H' x r=>?_⟩;have YV:∀b,b∈Jb own Z->∃vs,G' b=some dg_:=λb Y=>by
   show"!N";refine⟨vs,x.g _ _ ?_⟩;unfold Kh;rw[HB Y];exact h3
  have hG:∀b,b∈Jb own Z->G b=none:=λb Y=>by
   show"!N";exact h4
  refine k v (λb=>if b∈Jb own Z then none else G' b) H' ⟨λb o z=>?_,x.h,λb o z=>?_,λb z=>?_⟩ (Ar.mapT (λa vs q=>?_) d v hn r)
  .have Y:b∉Jb own Z:=λY=>by rw[hG b Y]at z;cases z
   show nZ_=some o;rw[GS Y];refine x.g _ _ ?_;unfold Kh;rw[GS Y];exact z
  .have z':nZ_=some o:=z;split at z'
   .cases z'
   .exact x.sub _ _ z'
  .have z':nZ_≠none:=z;split at z'
   .exact absurd rfl z'
   .rename_i Y;obtain y|y:=x.new b z'
    .unfold Kh at y;rw[GS Y]at y;exact .inl y
    .exact .inr y
  .have ne:∀u,G' a=some u->(∀ws,u≠.lst ws)->(if a∈Jb own Z then none else G' a)=some u:=λu e1 hu=>by
    rw[GS (λY=>by obtain⟨ws,e2⟩:=YV a Y;rw[e1]at e2;exact hu ws (IR e2))];exact e1
   rcases q with(q|⟨o,q⟩)|q
   .exact .inl (.inl (ne _ q λ_ z=>nomatch z))
   .exact .inl (.inr ⟨o,ne _ q λ_ z=>nomatch z⟩)
   .exact .inr q
 .cases e2
def Aa(i:Nat):Ad->Option D:=λρ=>(ρ[i]?).join
nonrec def fC(d:D):Ad->Option D:=λ_=>some d
def join_some{ρ:Ad}{i:Nat}(h:(ρ[i]?).join=some d):ρ[i]?=some dh!:=by
 cases z:ρ[i]? with
 |none=>rw[z]at h;cases h
 |some o=>rw[z]at h;exact congrArg some h
def aA(i:Nat){x:Str}(hi:aT!:=by decide)(hN:ad_:=by rfl)(hv:cp_:=by first|exact Or.inl rfl|exact Or.inr b!|exact Or.inr a4!)(hd:B_:=by decide)
  (bv:cq!:=by decide):DE X own cU! (Aa i):=
 eL jP_ λZ G H Q ρ d er e k=>let⟨v,B,J⟩:=er.at_ i d (join_some e) hi;⟨v,B,k v G H gO! J⟩
def c0k{t:TE}(h:id!)(ht:∀Z H Q,Q v H->t Z H Q)(r:∀H,Ar X.K H d v):DE X own e (fC d):=
 eL h λZ G H Q ρ d' er e' k=>by
  cases e';exact ht Z H Q (k v G H gO! (r G))
def aB{i:Int}{j:Nat}:DE X own ro_ (fC bp_):=c0k c6r gO_ λ_=>Ar.int
def aT{j:Nat}:DE X own (.Constant jH_ j pos) (fC jH_):=c0k c6p gO_ λ_=>Ar.str
def fZ{i:Bool}{j:Nat}:DE X own (.Constant (.bool i) j pos) (fC (.bl i)):=c0k d0l gO_ λ_=>Ar.bl
def cZ{j:Nat}:DE X own rp! bT!:=c0k c6q gO_ λ_=>Ar.non
def c4m{x:Str}{i:Int}(hg:M_)(hm:X.mg x=some dx!)(hd:B_:=by decide):DE X own cU! (fC bp_):=
 c0k (b1k (v:=V.int i) hg hm nH_ hd) gO_ λ_=>Ar.int
nonrec def f2(g:a4_)(fa fb:e_):Ad->Option D:=λρ=>(e8!).bind λx=>(jQ_).bind λy=>g x y
def Ie(K:z1!)(r:R2)(g:a4_):Prop:=∀{x y:V} {dx dy d:D} {G H:Hp} {Q:VK},Bf G H->Ar K G dx x->Ar K G dy y->g dx dy=some d->jR!->r x y H Q
def two{g:a4_}{r:R2}(hg:dX_){Z:St}{G H:Hp}{Q:VK}{ρ:Ad}(er:OR X.K own G H Z ρ)(e:f2 g fa fb ρ=some d)(k:∀v G' H',Cm G H G' H'->Ar X.K G' d v->Q v H'):
  Zy r (tD X.K own fa) (tD X.K own fb) Z H Q:=by
 unfold f2 at e;show"!;";obtain⟨y,e2,e⟩:=GN.mp e;exact⟨G,ρ,x,er,e1,λu G1 H1 s1 r1=>⟨G1,ρ,y,di_,e2,λw G2 H2 s2 r2=>hg s2.sub gP! r2 e λv G' H' s3 r3=>k v G' H' (s1.trans gP_) r3⟩⟩
def aW{op:Operator}{r:R2}{g:a4_}(ho:my!)(hg:dX_)(ha:Y_)(Y:cA!):DE X own my_ jR_:=
 eL vX! λZ G H Q ρ d er e k=>two hg er e k
def fJ{op:CmpOp}{r:R2}{g:a4_}(ho:b4_)(hg:dX_)(ha:Y_)(Y:cA!)(hm:dB_):DE X own dC! jR_:=
 eL vW! λZ G H Q ρ d er e k=>two hg er e k
def aM{r:R2}{g:a4_}(hr:Vn X r)(hg:dX_)(ha:Y_)(Y:cA!)(hs:Pk b):DE X own nn! jR_:=
 eL vW_ λZ G H Q ρ d er e k=>two hg er e k
nonrec def fT(f:e_):Ad->Option Bool:=λρ=>(aj_).bind λd=>match d with|.bl b=>some b|_=>none
def kP{ρ:Ad}{b:Bool}(h:fT f ρ=some b):f ρ=some bK_:=by unfold fT at h;obtain⟨d,e,h⟩:=GN.mp h;cases d<;>first|(cases h;exact e)|cases h
def bI{op:CmpOp}{r:R2}{g:a4_}(ho:b4_)(hg:dX_)(ha:Y_)(Y:cA!)(hm:dB_):DT X own dC! (fT jR_):=
 wN vX_ λZ G H Q ρ d er e k=>two (own:=own) (Q:=vY!) hg er (kP e) λv G' H' s' r'=>by
  cases cV r';exact vY_
def fH(h:dj!)(he:id_:=by intro _;rfl):DT X own e (fT f):=
 wN (b6o h.ok he) λZ G H Q ρ d er e k=>⟨G,ρ,.bl d,er,kP e,λv G' H' s' r'=>by
  cases cV r';exact vY_⟩
def Vc:D->Option Bool
 |.lst xs=>some (! dG_)
 |.tup xs=>some (! dG_)
 |.bl b=>some b
 |.int i=>some gd_
 |.non=>some false
 |_=>none
def sP{K:z1!}{H:Hp}{ds:a_}{vs:k!}(h:cx_):(!ds.isEmpty)=!vs.isEmpty:=by have:=aJ h;cases ds<;>cases vs<;>simp_all
def a7e(h:dj!)(he:id_:=by intro _;rfl):DT X own e (λρ=>(aj_).bind Vc):=
 wN (b6p h.ok he) λZ G H Q ρ b er e k=>by
  obtain⟨d,e1,e2⟩:=GN.mp e;refine⟨G,ρ,d,er,e1,λv G' H' s' r'=>⟨b,?_,n3!⟩⟩;cases d with
  |non=>cases dY r';cases e2;exact(rfl:false=false)
  |bl x=>cases cV r';cases e2;exact rfl
  |int i=>cases bA r';cases e2;exact(rfl:gd_=gd_)
  |str x=>cases e2
  |fn a=>cases e2
  |dk a=>cases e2
  |tup xs=>
   obtain⟨a,vs,e3,q,r3⟩:=bO r';subst e3;cases e2;exact .inr (.inl ⟨vs,bS s'.sub q,sP r3⟩)
  |lst xs=>
   obtain⟨a,vs,e3,q,r3⟩:=bQ r';subst e3;cases e2;exact .inl ⟨vs,s'.sub.seq q,sP r3⟩
def Cp(ft fu:aj!):Ad->Option Bool:=λρ=>(gQ!).bind λb=>if b then fu ρ else some false
def Ls(ft fu:aj!):Ad->Option Bool:=λρ=>(gQ!).bind λb=>if b then some true else fu ρ
def Ct(ft:aj!):Ad->Option Bool:=λρ=>(gQ!).map (!·)
variable{rest:List Expr}
def mX(h:gQ_):DW X own l3! ft:=vZ!
def rQ(h:gQ_):DW X own l3_ ft:=vZ_
def rR(ha:gQ_)(Y:DW X own eA! fu):DW X own eA_ (Cp ft fu):=
 c5r v0! λZ G H Q ρ d er e k=>by
  obtain⟨x,e1,e⟩:=GN.mp e;refine n4_;cases x with
  |true=>exact lA v0_
  |false=>cases e;exact lB (k G1 H1 s1)
def zU(ha:gQ_)(Y:DW X own eB! fu):DW X own eB_ (Ls ft fu):=
 c5r v1! λZ G H Q ρ d er e k=>by
  obtain⟨x,e1,e⟩:=GN.mp e;refine n4_;cases x with
  |false=>exact lB v0_
  |true=>cases e;exact lA (k G1 H1 s1)
def tJ(h:DW X own e ft):DT X own e ft:=⟨h.ok.pt⟩
def fX(h:gQ_):DT X own eC! (Ct ft):=
 wN (b6q h.ok) λZ G H Q ρ d er e k=>by
  obtain⟨x,e1,rfl⟩:=GU.mp e;exact⟨G,ρ,x,er,e1,λG1 H1 s1=>k G1 H1 s1⟩
def Cc(fa fb:e_):Ad->Option D:=λρ=>(n5_).bind λb=>if b then fb ρ else some ah_
def Ev(fa fb:e_):Ad->Option D:=λρ=>(n5_).bind λb=>if b then some A! else fb ρ
def Dp(fa:e_):Ad->Option D:=λρ=>(n5_).map λb=>.bl (!b)
def fY{op:BoolOp}(h:Y_):DE X own l6! fa:=v2!
def iO(ha:Y_)(Y:DE X own eA! fb):DE X own eA_ (Cc fa fb):=
 eL v2_ λZ G H Q ρ d er e k=>by
  obtain⟨x,e1,e⟩:=GN.mp e;refine n6!;cases cV r1;refine jS!;cases x with
  |true=>exact lA jS_
  |false=>cases e;exact lB v4!
def zV(ha:Y_)(Y:DE X own eB! fb):DE X own eB_ (Ev fa fb):=
 eL v4_ λZ G H Q ρ d er e k=>by
  obtain⟨x,e1,e⟩:=GN.mp e;refine n6!;cases cV r1;refine jS!;cases x with
  |false=>exact lB jS_
  |true=>cases e;exact lA v4!
def c0i(ha:Y_):DE X own eC! (Dp fa):=
 eL (b7j ha.ok) λZ G H Q ρ d er e k=>by
  obtain⟨x,e1,rfl⟩:=GU.mp e;refine n6!;cases cV r1;exact⟨x,rfl,v5!⟩
def Lu(ft:aj!)(fa fb:e_):Ad->Option D:=λρ=>(gQ!).bind λb=>if b then fa ρ else fb ρ
def d1m(hc:DT X own c ft)(ha:Y_)(Y:cA!):DE X own l9! (Lu ft fa fb):=
 eL v6! λZ G H Q ρ d er e k=>by
  obtain⟨x,e1,e⟩:=GN.mp e;refine n4_;cases x with
  |true=>exact lA jS_
  |false=>exact lB jS_
nonrec def f3(g h:a4_)(fa fb fc:e_):Ad->Option D:=λρ=>(e8!).bind λx=>(jQ_).bind λy=>(g x y).bind λz=>match z with
 |.bl true=>(fc ρ).bind λw=>h y w
 |.bl false=>some ah_
 |_=>none
def Af:Ad->Option aL!:=λ_=>some []
def Ab(f:e_)(fs:ao!):Ad->Option aL!:=λρ=>(aj_).bind λd=>(e9_).bind λds=>some dV_
def aK:DA X own [] Af:=c0l fR λZ G H Q ρ d er e k=>by
 cases e;exact k [] G H gO! Am.nil
def aC(h:dj!)(hs:jU!)(hst:am!:=by rfl):DA X own aG_ (Ab f fs):=
 c0l v6_ λZ G H Q ρ d er e' k=>by
  obtain⟨x,e1,e'⟩:=GN.mp e';obtain⟨xs,e2,e'⟩:=GN.mp e';cases e';exact⟨G,ρ,x,er,e1,λv G1 H1 s1 r1=>⟨G1,ρ,xs,di_,e2,λvs G2 H2 s2 r2=>k _ G2 H2 dj_ (Am.cons gP! r2)⟩⟩
def As(fs:ao!):Ad->Option D:=λρ=>(e9_).bind λds=>if f_<=1000 then some dg! else none
def Di(fs:ao!):Ad->Option D:=λρ=>(e9_).bind λds=>if f_<=1000 then some cy! else none
def gN{n:Nat}(h:n<=1000):n<=sizeLine:=LY (b3c h)
def cK{x1:Nat}(h:jU!):DE X own s0! (As fs):=
 eL (b7f h.ok) λZ G H Q ρ d er e k=>by
  show"!H"
  .show"!F";refine⟨G,ρ,ds,er,e1,λvs G1 H1 s1 r1=>⟨v7!,λp hp=>k _ _ _ v7_ (fL v8_ r1)⟩⟩
  .cases e
def mD(h:jU!):DE X own m1_ (Di fs):=
 eL n7_ λZ G H Q ρ d er e k=>by
  show"!H"
  .show"!F";refine⟨G,ρ,ds,er,e1,λvs G1 H1 s1 r1=>⟨v7!,λp hp=>k _ _ _ v7_ (dX v8_ r1)⟩⟩
  .cases e
def Ow(K:z1!)(r:cZ!)(g:ac_):Prop:=∀{vs:k!} {ds:a_} {d:D} {G H:Hp} {Q:VK},Bf G H->Am K G ds vs->g ds=some d->jR!->r vs H Q
nonrec def f1(g:ac_)(fs:ao!):Ad->Option D:=λρ=>(e9_).bind g
def bU{id:String}{x:Str}{r:cZ!}{g:ac_}(hc:nc_)(hd:Ow X.K r g)(hg:M_)(hm:cV!)(hv:nd!)(ha:jU_)(hn:cV_:=by decide)
  (av:B_:=by decide)(he:am!:=by rfl)(ax:aQ!:=by rfl):DE X own be_ n9!:=
 eL v9! λZ G H Q ρ d er e' k=>by
  obtain⟨ds,e1,e'⟩:=GN.mp e';exact⟨G,ρ,ds,er,e1,λvs G1 H1 s1 r1=>hd s1.sub r1 e' λv G2 H2 s2 r2=>k v G2 H2 dj_ r2⟩
def Xe(K:z1!)(n:Nat)(g:ac_):Sp:=λvs H Q _=>bd!=n/\∃G ds d,Bf G H/\Am K G ds vs/\g ds=some d/\∀v G' H',Cm G H G' H'->Ar K G' d v->Q v H'
def c4o{k:Nat}{ps:n!}{g:ac_}{x:Str}(F:Fe X.prog X.w X.K X.mg X.base Pf k ae fd ps v9_)(hr:bv!)(hg:M_)(hm:X.mg x=some bi_)(hk:W.keepIn X.K bi_=true)
  (Y:jV_)(ha:jU_)(hn:wa!:=by rfl)(ar:wa_)
  (av:B_:=by decide)(he:am!:=by rfl)(ax:aQ!:=by rfl):
  DE X own be_ n9!:=
 eL (a1b F hr hg hm hk Y .nil vA ha.ok av he ax) λZ G H Q ρ d er e' k=>by
  obtain⟨ds,e1,e'⟩:=GN.mp e';refine⟨G,ρ,ds,er,e1,λvs G1 H1 s1 r1=>?_⟩;show Xe X.K ps.length g (vs++[]) H1 Q E0;rw[HV];exact⟨by rw[<-aJ r1];exact ar ρ ds e1,G1,ds,d,s1.sub,r1,e',v3_⟩
end
def aS{ρ:Ad}{ds:a_}(h:Af ρ=some ds):f_=0:=by cases h;rfl
def aI{f:e_}{fs:ao!}{n:Nat}(hf:wb_):∀(ρ:Ad) (ds:a_),Ab f fs ρ=some ds->f_=n+1:=λρ ds e=>by
 show"!;";obtain⟨xs,e2,e⟩:=GN.mp e;cases e;rw[HA,hf ρ xs e2]
def nO{h:Heap}{its:aa_}(p:PlainL h a its):∃n sl,h.get? a=some {cls:=.type "list",dict:=none,data:=.seq its n,slots:=sl}:=by obtain⟨⟨cls,dd,data,sl⟩,n,e,B,J,h3⟩:=p;simp only at B J h3;subst B J h3;exact⟨n,sl,e⟩
section
variable{X:Cx}
def Yj(K:z1!):R2:=λx y H Q=>∃l b xs zs,x=.ref l/\y=.ref b/\Ff K H l xs/\Ff K H b zs/\i!+zs.length<=sizeLine/\∀p,H p=none->Q c2_ (upd H p us!)
def c2t:Gi X eI! (Yj X.K):=by
 intro O s Z H x y v u Q I rx ry h;obtain⟨l,b,xs,zs,rfl,rfl,hH,hB,hz,q⟩:=h;cases rx;cases ry;obtain⟨its,r,pl,z⟩:=I.list hH;obtain⟨gr,r2,YW,z2⟩:=I.list hB;obtain⟨n,sl,e⟩:=nO pl;obtain⟨n2,gc,e2⟩:=nO YW;have B:=az_;have J:=r2.length;refine concat_meets db! ⟨_,e2,rfl⟩ PySem.noFill_list_add PySem.seq_list_add PySem.F.slot_list_add PySem.F.entry_list_add (PySem.F.args_list_add_2 _ _)
  (list_addW l b its.toArray gr.toArray n n2 none none sl gc n9_) ⟨e,e2,?_⟩
 have ea:aO!++gr.toArray=(its++gr).toArray:=by simp
 rw[ea];exact⟨.ref _,_,I.lnew (t':=s.toks) (r.append r2) oa_,rfl,q _ I.fresh⟩
def Wa(K:z1!):R2:=λx y H Q=>∃a b ys,x=.ref a/\y=.ref b/\Gd K H a []/\Gd K H b ys/\Q dP_ H
def b7s:Gi X eI! (Wa X.K):=by
 intro O s Z H x y v u Q I rx ry h;obtain⟨a,b,ys,rfl,rfl,ha,Y,q⟩:=h;cases rx;cases ry;obtain⟨its,r1,p1,_⟩:=I.tuple ha;obtain⟨gr,r2,p2,_⟩:=I.tuple Y;obtain⟨⟨cls,dd,data,sl⟩,ho,hc,n,hd⟩:=id p1;obtain⟨⟨TN,mi,data2,gc⟩,jk,jl,n2,jm⟩:=id p2;simp only at hc hd jl jm;subst hc hd jl jm;have e0:its=[]:=r1.nil_iff.mpr rfl;exact concat_meets i4! i4_ noFill_tuple_add seq_tuple_add OZ OP (OL _ _)
  (tuple_addW0 a b its.toArray gr.toArray n n2 dd mi sl gc (by simp[e0])) ⟨ho,jk,⟨.ref b,H,I,rfl,q⟩⟩
abbrev big:Nat:=100000
def cP{n:Nat}(h:n<=big):n<=sizeLine:=IE h wc_
def Al:D->D->Option D
 |.int i,.int j=>some (.int (i+j))
 |.str x,.str y=>if eJ!+ct_<=big then some (.str (x++y))else none
 |.tup xs,.tup ys=>if i!+X_<=big then some (.tup eq!)else none
 |.lst xs,.lst ys=>if i!+X_<=big then some (.lst eq!)else none
 |_,_=>none
def Rv(K:z1!):R2:=λx y H Q=>Ru (λi j=>.int (i+j)) x y H Q\/((∃i j,x=.str i/\y=.str j/\i.length+j.length<=sizeLine/\Q (.str (i++j)) H)\/(Yi K x y H Q\/(Wa K x y H Q\/Yj K x y H Q)))
def aN:Gi X eI! (Rv X.K):=c7b.or (a8t.or (c2s.or (b7s.or c2t)))
def bE{K:z1!}:Ie K (Rv K) Al:=by
 show"!0";unfold Al at e;show"!7"
 .show"!`";exact .inl ⟨_,_,rfl,rfl,dZ_⟩
 .cases bY rx;cases bY ry;show"!7"
  .show"!F";exact .inr (.inl ⟨_,_,rfl,rfl,cP hl,wd!⟩)
  .cases e
 .show"!U";obtain⟨b,ws,rfl,qb,rb⟩:=bO ry;show"!7"
  .show"!F";have l1:=aJ ra;have l2:=aJ rb;by_cases hv:vs=[]
   .subst hv;refine .inr (.inr (.inr (.inl ⟨a,b,ws,rfl,rfl,jW!,ob!,k _ G H aC_ ?_⟩)));have:(_:a_)=[]:=NI.mp l1;rw[this,JO];exact Ar.tup qb rb
   .refine .inr (.inr (.inl ⟨a,b,vs,ws,rfl,rfl,jW!,ob!,hv,by rw[<-l1,<-l2];exact cP hl,λhw=>?_,λhw p hp=>?_⟩))
    .subst hw;have:(_:a_)=[]:=NI.mp l2;refine k _ G H aC_ ?_;rw[this,HV];exact Ar.tup qa ra
    .exact k _ _ _ jW_ (fL gS! (cW ra rb))
  .cases e
 .show"!}";obtain⟨b,ws,rfl,qb,rb⟩:=bQ ry;show"!7"
  .show"!F";exact .inr (.inr (.inr (.inr ⟨a,b,vs,ws,rfl,rfl,sub.seq qa,sub.seq qb,by rw[<-aJ ra,<-aJ rb];exact cP hl,λp hp=>k _ _ _ jW_ (dX gS! (cW ra rb))⟩)))
  .cases e
 .cases e
def Dw(c:mB!)(g:jX!):D->D->Option D
 |.int i,.int j=>if c i j=true then some br_ else none
 |_,_=>none
def a1l{K:z1!}{C:mx!}{c:mB!}{g:jX!}{gv:iz_}(hc:∀i j,c i j=true->C i j)(hg:we!):Ie K (rI C gv) (Dw c g):=by
 show"!0";unfold Dw at e;show"!7"
 .cases bA rx;cases bA ry;show"!7"
  .rename_i h;cases e;exact⟨_,_,rfl,rfl,hc _ _ h,wf!⟩
  .cases e
 .cases e
def Ce(g:jX!):D->D->Option D
 |.int i,.int j=>some br_
 |_,_=>none
def tQ{K:z1!}{g:jX!}{gv:iz_}(hg:we!):Ie K (Ru gv) (Ce g):=by
 show"!0";unfold Ce at e;show"!7"
 .show"!`";exact⟨_,_,rfl,rfl,wf!⟩
 .cases e
def Do:D->D->Option D:=Ce λi j=>.int (i - j)
def rA{K:z1!}:Ie K sk_ Do:=tQ λ_ _ _=>Ar.int
def Ti(i j:Int):Bool:=(decide (-iB_<i)&&decide (i<2 ^ 64))||(decide (-iB_<j)&&decide (j<2 ^ 64))
def c7g{K:z1!}:Ie K mD! (Dw Ti λi j=>.int (i*j)):=a1l (λi j h=>by
 unfold Ti at h;simp only[Bool.or_eq_true,HZ,IF]at h;exact h) λ_ _ _=>Ar.int
def c7h{K:z1!}:Ie K mF_ (Dw wg! λi j=>.int (i%j)):=a1l (λi j h=>by simpa using h) λ_ _ _=>Ar.int
def c2y{K:z1!}:Ie K mE! (Dw wh! λi j=>.int (i / j)):=a1l (λi j h=>by
 simp only[HZ,IF]at h;exact h) λ_ _ _=>Ar.int
def c7f{K:z1!}:Ie K mG_ (Dw wh_ λi j=>.int mG!):=a1l (λi j h=>by
 simp only[HZ,IF]at h;exact⟨h.1.1,h.1.2,h.2⟩) λ_ _ _=>Ar.int
def d0s{K:z1!}:Ie K mI! (Ce λi j=>.bl mJ_):=tQ λ_ _ _=>Ar.bl
def d0t{K:z1!}:Ie K mK_ (Ce λi j=>.bl mM!):=tQ λ_ _ _=>Ar.bl
def d0u{K:z1!}:Ie K mL_ (Ce λi j=>.bl mL!):=tQ λ_ _ _=>Ar.bl
def Ra(x y:Str):Bool:=!decide (y.cps.toList<x.cps.toList)
def b3v:Gi X mI_ (λx y H Q=>∃i j,x=.str i/\y=.str j/\Q wi! H):=by intro O s Z H x y v u Q I rx ry h;obtain⟨i,j,rfl,rfl,q⟩:=h;obtain⟨t,rfl⟩:=rx;obtain⟨t',rfl⟩:=ry;exact PySem.P.le_str (eJ I q rfl)
def Ci:D->Bool
 |.non=>true
 |_=>false
def Bs:D->D->Option D
 |x,.non=>some (.bl (Ci x))
 |_,_=>none
def yR{K:z1!}{H:Hp}(r:Ar K H d x):decide (x=V.non)=Ci d:=by
 cases d with
 |non=>cases dY r;rfl
 |bl b=>cases cV r;rfl
 |int b=>cases bA r;rfl
 |str b=>cases bY r;rfl
 |tup b=>obtain⟨a,vs,rfl,_⟩:=bO r;rfl
 |lst b=>obtain⟨a,vs,rfl,_⟩:=bQ r;rfl
 |fn b=>cases fP r;rfl
 |dk b=>obtain⟨a,rfl,_⟩:=c6f r;rfl
def a9b{K:z1!}:Ie K sr! Bs:=by
 show"!0";unfold Bs at e;show"!7"
 .show"#<"
 .cases e
def Ap:D->D->Option D
 |x,.non=>some (.bl (!Ci x))
 |_,_=>none
def mR{K:z1!}:Ie K sr_ Ap:=by
 show"!0";unfold Ap at e;show"!7"
 .show"#<"
 .cases e
def Ai:D->D->Option D
 |.tup xs,.int i=>Da xs i
 |.lst xs,.int i=>Da xs i
 |.str x,.int i=>if eJ!<=big then(Da x.cps.toList i).map λc=>.str aC! else none
 |_,_=>none
def oK{K:z1!}{H:Hp}{i:Int}(r:cx_)(h:Da ds i=some d):∃v,Da vs i=some v/\Ar K H d v:=by unfold Da at h ⊢;obtain⟨j,B,J⟩:=GN.mp h;obtain⟨v,h3,h4⟩:=fQ r J;exact⟨v,GN.mpr ⟨j,by rw[<-aJ r];exact B,h3⟩,h4⟩
def aL{K:z1!}:Ie K (EE K) Ai:=by
 show"!0";unfold Ai at e;show"!7"
 .show"!U";cases bA ry;obtain⟨v,B,J⟩:=oK ra e;exact .inr (.inl ⟨a,vs,_,v,rfl,rfl,jW!,B,k v G H aC_ J⟩)
 .show"!}";cases bA ry;obtain⟨v,B,J⟩:=oK ra e;exact .inl ⟨a,vs,_,v,rfl,rfl,sub.seq qa,B,k v G H aC_ J⟩
 .cases bY rx;cases bA ry;show"!7"
  .rename_i hl;obtain⟨c,B,rfl⟩:=GU.mp e;exact .inr (.inr ⟨_,_,c,rfl,rfl,cP hl,B,wd!⟩)
  .cases e
 .cases e
def Db{α:Type}(xs:H_)(lo hi:a2_):List α:=(xs.drop nk_).take nl!
def a4z{K:z1!}{H:Hp}(r:cx_)(lo hi:a2_):Am K H (Db ds lo hi) (Tn vs lo hi):=by unfold Db Tn;rw[aJ r];exact mK _ (qQ _ r)
end
section
variable{X:Cx}{own:List Nat}{e a b c:Expr}{es:List Expr}{pos p2:Pos}{f fa fb fc:Ad->Option D}{fs:Ad->Option (List D)}{ft fu:Ad->Option Bool}{ol oh:Ad->Option (Option Int)}
inductive AE(K:z1!)(own:i_)(o:of!)(Z:St)(H:Hp)(Q:tR_):Prop
 |mk (G:Hp) (ρ:Ad) (i:a2_) (r:cc!) (e:o ρ=some i) (k:∀G' H',Cm G H G' H'->Q i H'):AE K own o Z H Q
def Au:Ad->Option oe_:=λ_=>some none
def At(f:e_):Ad->Option oe_:=λρ=>(aj_).bind λd=>match d with|.int i=>some (some i)|_=>none
def dU:PO X none (AE X.K own Au):=λO s Z H Q I ⟨G,ρ,i,er,e,k⟩=>by
 cases e;exact c2f O s Z H Q I (k G H gO!)
def dS(h:dj!):PO X ij_ (AE X.K own (At f)):=λO s Z H Q I ⟨G,ρ,i,er,e',k⟩=>by
 obtain⟨d,e1,e2⟩:=GN.mp e';refine c2e h.ok O s Z H Q I ⟨G,ρ,d,er,e1,λv G' H' s' r'=>?_⟩;cases d<;>first
  |cases e2
  |skip
 cases bA r';exact⟨_,rfl,n3!⟩
def Bg:D->Option Int->Option Int->Option D
 |.tup xs,lo,hi=>if HT.sIx xs.length 0 lo=0/\HT.sIx xs.length xs.length hi=i! then none else some (.tup (Db xs lo hi))
 |.lst xs,lo,hi=>some (.lst (Db xs lo hi))
 |_,_,_=>none
def En(f:e_)(ol oh:of!):Ad->Option D:=λρ=>(aj_).bind λd=>(ol ρ).bind λl=>(oh ρ).bind λh=>Bg d l h
def dC{lo hi:Option Expr}(ha:Y_)(hl:PO X lo (AE X.K own ol))(hh:PO X hi (AE X.K own oh)):DE X own (.Subscript a nk! pos) (En fa ol oh):=
 eL (b7g (Ys.or c6c c1q) ha.ok hl hh) λZ G H Q ρ d er e k=>by
  show"!;";obtain⟨l,e2,e⟩:=GN.mp e;obtain⟨h,e3,e⟩:=GN.mp e;refine⟨G,ρ,x,er,e1,λv G1 H1 s1 r1=>⟨G1,ρ,l,di_,e2,λG2 H2 s2=>⟨G2,ρ,h,er.grow dj_,e3,λG3 H3 s3=>?_⟩⟩⟩;have r3:Ar X.K G3 x v:=(gP!).mono s3.g;have s4:Cm G H G3 H3:=s1.trans gP_;have sub:=s4.sub;unfold Bg at e;show"!7"
  .show"!7"
   .cases e
   .rename_i hw;cases e;obtain⟨p,vs,rfl,q,rr⟩:=bO r3;refine .inl ⟨p,vs,rfl,bS sub q,?_,λp hp=>k _ _ _ wj_ (fL gS! (a4z rr l h))⟩;rw[<-aJ rr];exact hw
  .cases e;obtain⟨p,vs,rfl,q,rr⟩:=bQ r3;exact .inr ⟨p,vs,rfl,og!,λp hp=>k _ _ _ wj_ (dX gS! (a4z rr l h))⟩
  .cases e
def EW:D->Value
 |.non=>.type "NoneType"
 |.bl _=>.type "bool"
 |.int _=>.type "int"
 |.str _=>.type "str"
 |.tup _=>.type "tuple"
 |.lst _=>.type "list"
 |.fn _=>.none
 |.dk _=>.none
def AZ(K:z1!)(T:String):List V->Hp->VK->Prop:=λxs H Q=>∃x d b,xs=[x,.ty T]/\Ar K H d x/\W.kitOne K (EW d) dP!=some b/\(∀a,d≠.fn a)/\(∀a,d≠.dk a)/\Q bK_ H
def c0v{T:String}:Ip X jY_ (AZ X.K T):=by
 intro O s Z H xs us Q I r h;obtain⟨x,d,b,rfl,rx,e,hf,zd,q⟩:=h;obtain⟨u,w',rfl,r1,r2⟩:=yJ r;cases r2;have fin:∀tk,EP X O Z Q lZ_ {s with toks:=tk}:=λtk=>⟨.bl b,H,I.tok tk,rfl,q⟩;cases d with
 |non=>cases dY rx;cases r1;exact QW W.kitx_none I.kIn True.intro e d2! fin
 |bl y=>cases cV rx;cases r1;exact QW W.kitx_bool I.kIn True.intro e d2! fin
 |int y=>cases bA rx;obtain⟨t,rfl⟩:=r1;exact QW W.kitx_int I.kIn True.intro e d2! fin
 |str y=>cases bY rx;obtain⟨t,rfl⟩:=r1;exact QW W.kitx_str I.kIn True.intro e d2! fin
 |tup ys=>
  show"!U";cases r1;obtain⟨its,_,⟨o,B,J,_⟩,_⟩:=I.tuple qa;exact QW W.kitx_tuple I.kIn oh! e d2! fin
 |lst ys=>
  show"!}";cases r1;obtain⟨its,_,pl,_⟩:=I.list qa;obtain⟨o,n,B,J,_⟩:=pl;exact QW W.kitx_list I.kIn oh! e d2! fin
 |fn a=>exact absurd rfl (hf a)
 |dk a=>exact absurd rfl (zd a)
def Fk(T:String):D->Option Bool
 |.non=>some (T=="NoneType")
 |.bl _=>some (T=="bool"||T=="int")
 |.int _=>some (T=="int")
 |.str _=>some (T=="str")
 |.tup _=>some (T=="tuple")
 |.lst _=>some (T=="list")
 |.fn _=>none
 |.dk _=>none
structure Vo(K:z1!)(T:String):Prop where
 ok:∀d b,Fk T d=some b->W.kitOne K (EW d) dP!=some b
def a2g:W.kitOne [] gT_ bD_=some ("int"=="NoneType"):=by decide+kernel
def a6c:W.kitOne [] bE! bD_=some ("int"=="bool"||"int"=="int"):=by decide+kernel
def a2k:W.kitOne [] bD_ bD_=some ("int"=="int"):=by decide+kernel
def a2e:W.kitOne [] bE_ bD_=some ("int"=="str"):=by decide+kernel
def a2c:W.kitOne [] a6! bD_=some ("int"=="tuple"):=by decide+kernel
def a2i:W.kitOne [] bj! bD_=some ("int"=="list"):=by decide+kernel
def b2f{K:z1!}:Vo K "int":=⟨λd b h=>match d,b,h with
 |.non,b,h=>by cases h;exact a2g
 |.bl _,b,h=>by cases h;exact a6c
 |.int _,b,h=>by cases h;exact a2k
 |.str _,b,h=>by cases h;exact a2e
 |.tup _,b,h=>by cases h;exact a2c
 |.lst _,b,h=>by cases h;exact a2i
 |.fn _,b,h=>by cases h
 |.dk _,b,h=>by cases h⟩
def xV:W.kitOne [] gT_ bE!=some ("bool"=="NoneType"):=by decide+kernel
def a2m:W.kitOne [] bE! bE!=some ("bool"=="bool"||"bool"=="int"):=by decide+kernel
def xZ:W.kitOne [] bD_ bE!=some ("bool"=="int"):=by decide+kernel
def xS:W.kitOne [] bE_ bE!=some ("bool"=="str"):=by decide+kernel
def xQ:W.kitOne [] a6! bE!=some ("bool"=="tuple"):=by decide+kernel
def xX:W.kitOne [] bj! bE!=some ("bool"=="list"):=by decide+kernel
def a6p{K:z1!}:Vo K "bool":=⟨λd b h=>match d,b,h with
 |.non,b,h=>by cases h;exact xV
 |.bl _,b,h=>by cases h;exact a2m
 |.int _,b,h=>by cases h;exact xZ
 |.str _,b,h=>by cases h;exact xS
 |.tup _,b,h=>by cases h;exact xQ
 |.lst _,b,h=>by cases h;exact xX
 |.fn _,b,h=>by cases h
 |.dk _,b,h=>by cases h⟩
def a2f:W.kitOne [] gT_ bE_=some ("str"=="NoneType"):=by decide+kernel
def a6b:W.kitOne [] bE! bE_=some ("str"=="bool"||"str"=="int"):=by decide+kernel
def a2j:W.kitOne [] bD_ bE_=some ("str"=="int"):=by decide+kernel
def a2d:W.kitOne [] bE_ bE_=some ("str"=="str"):=by decide+kernel
def a2b:W.kitOne [] a6! bE_=some ("str"=="tuple"):=by decide+kernel
def a2h:W.kitOne [] bj! bE_=some ("str"=="list"):=by decide+kernel
def a3d{K:z1!}:Vo K "str":=⟨λd b h=>match d,b,h with
 |.non,b,h=>by cases h;exact a2f
 |.bl _,b,h=>by cases h;exact a6b
 |.int _,b,h=>by cases h;exact a2j
 |.str _,b,h=>by cases h;exact a2d
 |.tup _,b,h=>by cases h;exact a2b
 |.lst _,b,h=>by cases h;exact a2h
 |.fn _,b,h=>by cases h
 |.dk _,b,h=>by cases h⟩
def vW:W.kitOne [] gT_ a6!=some ("tuple"=="NoneType"):=by decide+kernel
def yA:W.kitOne [] bE! a6!=some ("tuple"=="bool"||"tuple"=="int"):=by decide+kernel
def vY:W.kitOne [] bD_ a6!=some ("tuple"=="int"):=by decide+kernel
def vV:W.kitOne [] bE_ a6!=some ("tuple"=="str"):=by decide+kernel
def vU:W.kitOne [] a6! a6!=some ("tuple"=="tuple"):=by decide+kernel
def vX:W.kitOne [] bj! a6!=some ("tuple"=="list"):=by decide+kernel
def jP{K:z1!}:Vo K "tuple":=⟨λd b h=>match d,b,h with
 |.non,b,h=>by cases h;exact vW
 |.bl _,b,h=>by cases h;exact yA
 |.int _,b,h=>by cases h;exact vY
 |.str _,b,h=>by cases h;exact vV
 |.tup _,b,h=>by cases h;exact vU
 |.lst _,b,h=>by cases h;exact vX
 |.fn _,b,h=>by cases h
 |.dk _,b,h=>by cases h⟩
def xU:W.kitOne [] gT_ bj!=some ("list"=="NoneType"):=by decide+kernel
def a2l:W.kitOne [] bE! bj!=some ("list"=="bool"||"list"=="int"):=by decide+kernel
def xY:W.kitOne [] bD_ bj!=some ("list"=="int"):=by decide+kernel
def xR:W.kitOne [] bE_ bj!=some ("list"=="str"):=by decide+kernel
def xP:W.kitOne [] a6! bj!=some ("list"=="tuple"):=by decide+kernel
def xW:W.kitOne [] bj! bj!=some ("list"=="list"):=by decide+kernel
def b9i{K:z1!}:Vo K "list":=⟨λd b h=>match d,b,h with
 |.non,b,h=>by cases h;exact xU
 |.bl _,b,h=>by cases h;exact a2l
 |.int _,b,h=>by cases h;exact xY
 |.str _,b,h=>by cases h;exact xR
 |.tup _,b,h=>by cases h;exact xP
 |.lst _,b,h=>by cases h;exact xW
 |.fn _,b,h=>by cases h
 |.dk _,b,h=>by cases h⟩
def Dj(T:String)(f:e_):Ad->Option D:=λρ=>(aj_).bind λd=>(Fk T d).map D.bl
def gE{T:String}{x:Str}(ht:Vo X.K T)(hg:wm!)(hm:wl!)(ze:M_)(ub:cV!)(hv:wl_)(YX:nd_)(ha:Y_)
  (j9:cV_:=by decide)(jm:B_:=by decide)
  (he:starEach [a,cC!] X.env=dF_::starEach [cC!] X.env:=by rfl)(qr:starEach [cC!] X.env=(false,eval dl! X.env)::starEach [] X.env:=by rfl)
  (ax:(backTo pos (starEach [cC!] X.env)).any b_=false:=by rfl):DE X own (.Call (.Name "isinstance" p) [a,cC!] [] pos) (Dj T fa):=
 eL (oQ (r:=AZ X.K T) c0v hg hm hv (dD ha.ok (dD (c2m (v:=V.ty T) ze ub YX rfl j9 jm) fR qr) he) d! d! he ax) λZ G H Q ρ d er e k=>by
  show"!;";obtain⟨b,e2,rfl⟩:=GU.mp e;exact⟨G,ρ,x,er,e1,λv G1 H1 s1 r1=>⟨v,x,b,rfl,r1.mono s1.sub,ht.ok x b e2,wn_,wn_,v5!⟩⟩
def eZ{K:z1!}{H:Hp}(h:Am K H [d] vs):∃v,vs=[v]/\Ar K H d v:=by obtain⟨v,r,rfl,B,J⟩:=bJ h;cases cM J;exact⟨v,rfl,B⟩
def Bk:List D->Option D
 |[.tup xs]=>some (.int i!)
 |[.lst xs]=>some (.int i!)
 |[.str x]=>if eJ!<=big then some (.int eJ!)else none
 |_=>none
def eG{K:z1!}:Ow K wo! Bk:=by
 show"!e";unfold Bk at e;show"!7"
 .show"!D";obtain⟨a,ws,rfl,q,rr⟩:=bO rv;cases e;exact⟨_,_,rfl,.inr ⟨ws,bS sub q,aJ rr⟩,dZ_⟩
 .show"!D";obtain⟨a,ws,rfl,q,rr⟩:=bQ rv;cases e;exact⟨_,_,rfl,.inl ⟨ws,og!,aJ rr⟩,dZ_⟩
 .show"!D";cases bY rv;show"!7"
  .show"!F";exact⟨_,_,rfl,⟨cP hl,rfl⟩,dZ_⟩
  .cases e
 .cases e
def Ft:List D->Option D
 |[.int i]=>some (.int iI!)
 |_=>none
def c9e{K:z1!}:Ow K sx_ Ft:=by
 show"!e";unfold Ft at e;show"!7"
 .show"!D";cases bA rv;cases e;exact⟨_,rfl,dZ_⟩
 .cases e
def Xo:List D->Option D
 |[.str x]=>if eJ!=1 then some sz! else none
 |_=>none
def c9d{K:z1!}:Ow K sz_ Xo:=by
 show"!e";unfold Xo at e;show"!7"
 .show"!D";cases bY rv;show"!7"
  .show"!F";exact⟨_,rfl,hl,dZ_⟩
  .cases e
 .cases e
def uF:∀{bs:j1!} {us:g_},Ba (bs.map V.bl) us->us=bs.map Value.bool
 |[],_,.nil=>rfl
 |b::bs,_,.cons r t=>by cases r;rw[uF t];rfl
def BC(K:z1!):List V->Hp->VK->Prop:=λxs H Q=>∃(p:xK!) (bs:j1!),xs=[.ref p]/\Ff K H p (bs.map V.bl)/\Q (.bl oj_) H
def b5c:∀(bs:j1!),((List.range bs.length).all λi=>(bs[i]?).getD true)=bs.all id:=λbs=>by
 rw[KF,JR,JR];show"!K"
 .intro h x hx;obtain⟨i,hi,rfl⟩:=PU.mp hx;have:=h i (NP.mpr hi);simpa[hi]using this
 .intro h i hi;have df:=NP.mp hi;simpa[df]using h bs[i] (JY df)
def mE(hc:bb_):Ip X wp_ (BC X.K):=by
 intro O s Z H xs us Q I r h;obtain⟨p,bs,rfl,hq,q⟩:=h;obtain⟨u,rfl,r1⟩:=rY r;cases r1;obtain⟨its,rv,pl,hz⟩:=I.list hq;have e:=uF rv;subst e;have hl:=pl.isList;have ao:p<k_:=by obtain⟨_,e,_⟩:=hl;exact HR e
 refine call_all_walk (wpAny_pyIter_list hl ?_);refine⟨k_,[k_,p],[k_],(j1_).toArray.size,_,_,λi=>(bs[i]?).getD true,rfl,Walks.list (A:=X.A.in1) bq! _ p (II ao) (j1_).toArray,
  ⟨dE_,hl.push _⟩,λi v s' Q' E' hP hQ=>?_,λh' tk hk=>?_⟩
 .have UJ:j1_[i]?=some v:=by simpa using hP
  rw[IB]at UJ;obtain⟨b,Y,rfl⟩:=GU.mp UJ;simp only[Y,Option.getD_some]at hQ;exact IS hQ
 .have e:((List.range (j1_).toArray.size).all λi=>(bs[i]?).getD true)=bs.all id:=by
   rw[GW,HG];exact b5c bs
  rw[e];exact⟨.bl _,H,I.kept (t':=tk) λb x ex=>hk b x (λhm=>by rw[HI.mp hm]at ex;exact MJ _ (HR ex)) (GQ _ ex),rfl,q⟩
def Ke:List D->Option (List Bool)
 |[]=>some []
 |.bl b::r=>(Ke r).map (b::·)
 |_=>none
def Ll:List D->Option D
 |[.lst xs]=>(Ke xs).map λbs=>.bl oj_
 |_=>none
def yS{K:z1!}{H:Hp}:∀{ds:a_} {vs:k!} {bs:j1!},Am K H ds vs->Ke ds=some bs->vs=bs.map V.bl
 |[],vs,bs,r,e=>by cases cM r;cases e;rfl
 |d::ds,vs,bs,r,e=>by
  obtain⟨v,t,rfl,r1,r2⟩:=bJ r;cases d<;>first|cases e|skip
  obtain⟨bs',e1,rfl⟩:=GU.mp e;cases cV r1;rw[yS r2 e1];rfl
def wW{K:z1!}:Ow K (BC K) Ll:=by
 show"!e";unfold Ll at e;show"!7"
 .show"!D";obtain⟨a,ws,rfl,q,rr⟩:=bQ rv;obtain⟨bs,e1,rfl⟩:=GU.mp e;have:=yS rr e1;subst this;exact⟨a,bs,rfl,og!,d4_⟩
 .cases e
end
def Xw(K:z1!)(ac:It)(ds:a_)(G1:Hp):Prop:=∀(i:Nat) (G' H':Hp),Bf G1 G'->Bf G' H'->
 wr_/\ws!
inductive EZ(K:z1!)(own:i_)(fi:ao!)(Z:St)(H:Hp)(R:fZ_):Prop
 |mk (G:Hp) (ρ:Ad) (ds:a_) (o:cc!) (e:fi ρ=some ds) (k:∀ac G1 H1,Cm G H G1 H1->Xw K ac ds G1->R ac H1):EZ K own fi Z H R
structure DI(X:Cx)(own:i_)(tg iter:Expr)(fi:ao!):Prop where
 ok:PI X tg iter (EZ X.K own fi)
section
variable{X:Cx}{own:List Nat}{e a b c tg:Expr}{es:List Expr}{pos p2:Pos}{f fa fb fc:Ad->Option D}{fs fi:Ad->Option (List D)}{ft fu:Ad->Option Bool}
def a7f{wi:TI}(h:PI X tg e wi)(hw:∀Z G H R ρ ds,OR X.K own G H Z ρ->fi ρ=some ds->(∀ac G1 H1,Cm G H G1 H1->Xw X.K ac ds G1->R ac H1)->wi Z H R):DI X own tg e fi:=⟨λO s Z H R I ⟨G,ρ,ds,er,e,k⟩=>h O s Z H R I (hw Z G H R ρ ds er e k)⟩
def Eo(f:e_):Ad->Option aL!:=λρ=>(aj_).bind λd=>match d with|.lst xs=>some xs|_=>none
def EI(f:e_):Ad->Option aL!:=λρ=>(aj_).bind λd=>match d with|.tup xs=>some xs|_=>none
def a6o{K:z1!}{G1:Hp}{ad:xK!}(q:Ff K G1 ad vs)(r:Am K G1 ds vs):Xw K (ES K ad) ds G1:=by intro i G' H' s1 s2;have q':Ff K H' ad vs:=s2.seq (s1.seq q);refine⟨dm!,λhi=>⟨vs,q',by rw[<-aJ r,hi];exact HL _⟩⟩;obtain⟨v,B,J⟩:=fQ r hd;refine⟨⟨vs,v,q',B⟩,fd!⟩;obtain⟨e1,e2⟩:=hy;subst e1;have:=e2 vs q';rw[B]at this;cases this;exact⟨G',j2!,J.mono s1⟩
def fB(h:Y_):DI X own tg a (Eo fa):=a7f (b1h h.ok) λZ G H R ρ ds er e k=>by
 obtain⟨d,e1,e2⟩:=GN.mp e;cases d<;>first|cases e2|skip
 refine fd_;obtain⟨p,vs,rfl,q,rr⟩:=bQ r1;exact⟨p,rfl,⟨vs,s1.sub.seq q⟩,k _ G1 H1 s1 (a6o q rr)⟩
def Cq(n:Nat):List D:=(ol_).map λi=>.int (i:Nat)
def Fc(f:e_):Ad->Option aL!:=λρ=>(aj_).bind λd=>match d with|.int j=>if -1000<=j/\j<=100000 then some (Cq j.toNat)else none|_=>none
def b4o{K:z1!}{G1:Hp}{n:Nat}:Xw K (BV 0 n) (Cq n) G1:=by intro i G' H' s1 s2;unfold Cq;refine wt_;rw[IB]at hd;obtain⟨j,hj,rfl⟩:=GU.mp hd;obtain⟨hl,he⟩:=HC.mp hj;rw[NJ]at he;subst he;rw[KQ]at hl;refine⟨hl,fd!⟩;obtain⟨e1,e2⟩:=hy;subst e1 e2;refine⟨G',j2!,?_⟩;rw[Int.zero_add];exact Ar.int
def gR{pos:Pos}(hg:iu!)(hm:iu_)(h:Y_)(hs:r1!:=by rfl)(b9:om!:=by rfl):
  DI X own tg ye! (Fc fa):=a7f (b3r hg hm (dD h.ok fR b9) hs) λZ G H R ρ ds er e k=>by
 obtain⟨d,e1,e2⟩:=GN.mp e;cases d<;>first|cases e2|skip
 rename_i j;have e3:(if -1000<=j/\j<=100000 then some (Cq j.toNat)else none)=some ds:=e2;split at e3
 .rename_i hj;cases e3;refine fd_;cases bA r1;exact⟨j,rfl,u!,u!,k _ G1 H1 s1 b4o⟩
 .cases e3
def Ei(bnd:ag!)(ft:aj!)(fe:e_)(ρ:Ad):List D->Option aL!
 |[]=>some []
 |d::ds=>(j3!).bind λal=>(ft al).bind λb=>if b then(fe al).bind λy=>(Ei bnd ft fe ρ ds).map (y::·)else Ei bnd ft fe ρ ds
def GD(K:z1!)(g:TG)(bnd:ag!):Prop:=∀{x:V} {d:D} {Z:St} {G H:Hp} {ρ al:Ad} {Q:ik!},OR K [] G H Z ρ->Ar K G d x->bnd d ρ=some al->(∀bx,OR K [] G H bx al->Le ρ al->Q bx H)->g x Z H Q
def Bl(i:Nat):D->Ad->Option Ad:=λd ρ=>match ρ[i]? with|some none=>some bR_|_=>none
def dL{K:z1!}(i:Nat):GD K eD! (Bl i):=by
 intro x d Z G H ρ al Q er r e k;unfold Bl at e;show"!7"
 .rename_i h;cases e;exact k _ (er.set c_ r) ((Le.refl ρ).set h)
 .cases e
def Qs(i j:Nat):D->Ad->Option Ad:=λd ρ=>match d with
 |.tup [x,y]=>(Bl i x ρ).bind λal=>Bl j y al
 |_=>none
def Le.trans{ρ al bh:Ad}(a:Le ρ al)(b:Le al bh):Le ρ bh:=⟨a.1.trans b.1,λi d h=>b.2 i d (a.2 i d h)⟩
def c3x{K:z1!}(i j:Nat):GD K ww! (Qs i j):=by
 intro x d Z G H ρ al Q er r e k;unfold Qs at e;show"!7"
 .obtain⟨bh,e1,e2⟩:=GN.mp e;show"!Z";show"!5";refine⟨p,[v1,v2],rfl,bS er.sub q,rfl,v1,[v2],rfl,?_⟩;refine dL i er r1 e1 λbx nz l1=>⟨v2,[],rfl,?_⟩;exact dL j nz r2 e2 λdb cg l2=>⟨rfl,k db cg (l1.trans l2)⟩
 .cases e
def Ep(nl:Nat)(ix:i_)(fi:ao!)(bnd:ag!)(ft:aj!)(fe:e_):Ad->Option D:=λρ=>(fi ρ).bind λds=>if f_<=big then(Ei bnd ft fe nY! ds).map D.lst else none
def c9c{K:z1!}{ac:It}{ds:a_}{G1 H1:Hp}{g:TG}{bnd:ag!}{ft:aj!}{fe:e_}{km:Ad}{ud:St}{Fin:cT_}
  (Y:f_<=big)(fm:Xw K ac ds G1)(hg:GD K g bnd)(er:OR K [] G1 H1 ud km)(e:Ei bnd ft fe km ds=some jo)(k:∀ys G' H',Cm G1 H1 G' H'->Am K G' jo ys->Fin ys H'):
  Uz ac g (Yw K [] ft) (tD K [] fe) Fin ud H1:=by
 refine⟨λi m ys h2 H'=>i<=f_/\m=f_ - i/\∃G' ws r,Cm G1 H1 G' H'/\OR K [] G' H' h2 km/\Am K G' ws ys/\nf!<=i/\Ei bnd ft fe km (ds.drop i)=some r/\ws++r=jo,
  ⟨f_,JA _,rfl,G1,[],jo,Cm.refl er.sub,er,Am.nil,JA _,e,rfl⟩,?_⟩
 rintro i m ys h2 H' ⟨hi,rfl,G',ws,r,x,cr,au,hw,cg,et⟩;refine wx_;obtain⟨og,oi⟩:=fm i G' H' x.g cr.sub;by_cases ao:i<f_
 .right;have hd:ds[i]?=some ds[i]:=by simp[ao]
  have zf:ds.drop i=ds[i]::ds.drop aY_:=LK ao;rw[zf]at cg;unfold Ei at cg;obtain⟨al,e1,cg⟩:=GN.mp cg;obtain⟨b,e2,cg⟩:=GN.mp cg;obtain⟨go,yl⟩:=og _ hd;refine⟨go,j4!⟩;obtain⟨G2,x2,r2⟩:=yl v H2 hy;refine hg (cr.grow x2) r2 e1 λbx nz ue=>⟨G2,al,b,nz,e2,λG3 H3 x3=>?_⟩;have ky:=nz.grow x3;have mj:Cm G1 H1 G3 H3:=x.trans (x2.trans x3);cases b with
  |true=>
   obtain⟨y,e3,cg⟩:=GN.mp cg;obtain⟨zs,e4,rfl⟩:=GU.mp cg;refine lA ⟨G3,al,y,ky,e3,λu G4 H4 x4 r4=>⟨_,?_,ao,rfl,G4,ws++[y],zs,mj.trans x4,(ky.grow x4).le ue,?_,?_,e4,?_⟩⟩
   .omega
   .exact cW wz! (Am.cons r4 Am.nil)
   .rw[HE,IZ];omega
   .rw[IY];exact et
  |false=>
   refine lB ⟨_,?_,ao,rfl,G3,ws,r,mj,ky.le ue,(op!).mono x3.g,u!,cg,et⟩;omega
 .left;have ip:i=f_:=by omega
  refine⟨oi ip,k ys G' H' x ?_⟩;rw[ip,OY]at cg;cases cg;rw[HV]at et;subst et;exact au
def iX{scope:Scope}{NL:n!}{ix:i_}{g:TG}{bnd:ag!}{fe:e_}
  (cj:dd_)(ce:de!)(kj:∀y∈ca!,y.2=.local->scope.names.lookup y.1=some .local)
  (il:gJ_)(cap:dd!)(hix:jN!)(calm:bb_)(a9:DI X own tg iter fi)
  (hg:gK!)(oj:op_)(hi:∀cl C am bc fp,Pe ca_ de wA!)(he:∀cl C am bc fp,DE ca_ [] du fe)
  (hs:cX_:=by intro _;rfl):
  DE X own gI! (Ep NL.length ix fi bnd ft fe):=
 eL wB! λZ G H Q ρ d er e k=>by
  show"!H"
  .rename_i Y;obtain⟨jo,e2,rfl⟩:=GU.mp e;refine⟨G,ρ,ds,er,e1,wB_⟩;refine c9c Y fm oj ((er.grow x1).cap NL.length ix hix) e2 λys G' H' x r p hp=>?_;exact k _ _ _ (x1.trans (x.trans gY!)) (dX oq! r)
  .cases e
def uZ:Pe X [] (Yw X.K [] λ_=>some true):=λO s Z H Q I ⟨G,ρ,b,er,e,k⟩=>by
 cases e;exact a5i O s Z H Q I (k G H gO!)
def d0i(h:DT X [] c ft):Pe X [c] wA!:=a5h h.ok
end
inductive Fl where
 |nx (ρ:Ad)|rt (d:D)
structure SR(K:z1!)(own:i_)(G0 F0 G H:Hp)(Z:St)(ρ:Ad):Prop where
 or:OR K own G H Z ρ
 ext:Cm G0 F0 G H
 fr:∀i∈own,∀p,Z[i]?=some cb_->F0 p=none
inductive CC(K:z1!)(G0 F0:Hp)(own σ:i_)(f:aD!)(E:Sj)(Z:St)(H:Hp):Prop
 |mk (G:Hp) (ρ:Ad) (r:Fl) (o:fe!) (e:f ρ=some r) (k:match(generalizing:=false) r with
  |.nx ρ'=>∀G' h2 H',SR K σ G0 F0 G' H' h2 ρ'->E.nx h2 H'
  |.rt d=>∀v G' H',Cm G0 F0 G' H'->Ar K G' d v->E.rt v H'):CC K G0 F0 own σ f E Z H
structure DS(X:Cx)(own σ:i_)(st:Stmt)(f:aD!):Prop where
 ok:∀G0 F0,PS X st wC_
structure Ws(X:Cx)(own σ:i_)(st:bp!)(f:aD!):Prop where
 ok:∀G0 F0,Ov X st wC_
section
variable{X:Cx}{own a8 g7:List Nat}{st:Stmt}{rest body:List Stmt}{e a b c tg:Expr}{es:List Expr}{pos p2:Pos}{f fa fb fc:Ad->Option D}{fs fi:Ad->Option (List D)}{ft fu:Ad->Option Bool}{q1 q2 q3:Ad->Option Fl}
def c5s{t:TS}(h:ii_)(hw:∀G0 F0 E Z G H ρ r,SR X.K own G0 F0 G H Z ρ->q1 ρ=some r->(match r with
  |.nx ρ'=>∀G' h2 H',SR X.K a8 G0 F0 G' H' h2 ρ'->E.nx h2 H'
  |.rt d=>∀v G' H',Cm G0 F0 G' H'->Ar X.K G' d v->E.rt v H')->t E Z H):DS X own a8 st q1:=⟨λG0 F0 O s Z H E I ⟨G,ρ,r,er,e,k⟩=>h O s Z H E I (hw G0 F0 E Z G H ρ r er e k)⟩
def SR.grow{K:z1!}{G0 F0 G H G' H':Hp}{Z:St}{ρ:Ad}(s:fe!)(x:jM!):SR K own G0 F0 G' H' Z ρ:=⟨s.or.grow x,s.ext.trans x,s.fr⟩
def SR.set{K:z1!}{G0 F0 G H:Hp}{Z:St}{ρ:Ad}{i:Nat}(s:fe!)(hi:aT!)(r:cz!):SR K own G0 F0 G H ex_ bR_:=
 ⟨s.or.set hi r,s.ext,λj hj p e=>by
  have ne:i≠j:=λz=>hi (z▸hj);rw[IA ne]at e;exact s.fr j hj p e⟩
def Cn:Ad->Option Fl:=λρ=>some ap_
nonrec def sSeq(q1 q2:aD!):Ad->Option Fl:=λρ=>(q1 ρ).bind λr=>match r with|.nx ρ'=>q2 ρ'|.rt d=>some a6_
def dM:Ws X own own [] Cn:=⟨λG0 F0 O s Z H E I ⟨G,ρ,r,er,e,k⟩=>by
 cases e;exact b1c O s Z H E I (k G Z H er)⟩
def aR(B:wD!)(J:Ws X a8 g7 rest q2):Ws X own g7 ij! (sSeq q1 q2):=⟨λG0 F0 O s Z H E I ⟨G,ρ,r,er,e,k⟩=>by
 refine uX or! (J.ok G0 F0) O s Z H E I ?_;obtain⟨r1,e1,e2⟩:=GN.mp e;refine⟨G,ρ,r1,er,e1,?_⟩;cases r1 with
 |nx ρ'=>exact λG' h2 H' cr=>⟨G',ρ',r,cr,e2,k⟩
 |rt d=>
  cases e2;exact k⟩
def aU(B:wD!):Ws X own a8 [st] q1:=⟨λG0 F0=>oN or!⟩
def SR.free{K:z1!}{G0 F0 G H:Hp}{Z:St}{ρ:Ad}(s:fe!):SR K [] G0 F0 e6_ H Z ρ:=by
 have o:=s.or.full;refine⟨o,⟨jL_,s.ext.h,o.sub,bh_⟩,an_⟩
 .have z:=s.ext.g b u e;unfold Kh;split
  .exact s.or.sub b u z
  .exact z
 .unfold Kh at h;split at h
  .rename_i Y;obtain⟨i,hi,q⟩:=mU Y;exact .inr (s.fr i hi b q)
  .exact s.ext.new b h
def wO(h:Ws X [] g7 rest q1):Ws X own g7 rest q1:=⟨λG0 F0 O s Z H E I ⟨G,ρ,r,er,e,k⟩=>h.ok G0 F0 O s Z H E I ⟨_,ρ,r,er.free,e,k⟩⟩
def Be(f:e_):Ad->Option Fl:=λρ=>(aj_).map Fl.rt
def bN(h:dj!):DS X own a8 md! (Be f):=c5s (b6t h.ok) λG0 F0 E Z G H ρ r er e' k=>by
 obtain⟨d,e1,rfl⟩:=GU.mp e';exact⟨G,ρ,d,er.or,e1,λv G' H' x r=>k v G' H' (er.ext.trans x) r⟩
def Bv(i:Nat)(f:e_):Ad->Option Fl:=λρ=>(aj_).map λd=>.nx bR_
def eC{i:Nat}(hN:aW_)(hi:ad_)(hx:bb!)(h:dj!)(bq:aT!:=by decide)(hs:os_:=by rfl)
  (hf:X.fn x=true\/X.env.scope.names.lookup x=some .local:=by first|exact .inl rfl|exact .inr rfl|assumption):DS X own own wE! (Bv i f):=
 c5s wD_ λG0 F0 E Z G H ρ r er e' k=>by
  obtain⟨d,e1,rfl⟩:=GU.mp e';exact⟨G,ρ,d,er.or,e1,λv G' H' x r=>k G' _ H' ((g0!).set bq r)⟩
def Fs(ft:aj!)(q1 q2:aD!):Ad->Option Fl:=λρ=>(gQ!).bind λb=>if b then q1 ρ else q2 ρ
def gA{b1 b2:bp!}(hc:DT X own c ft)(B:Ws X own a8 b1 q1)(J:Ws X own a8 b2 q2):DS X own a8 ou! (Fs ft q1 q2):=⟨λG0 F0 O s Z H E I ⟨G,ρ,r,er,e',k⟩=>by
 refine b6v hc.ok or! (J.ok G0 F0) O s Z H E I ?_;obtain⟨x,e1,e2⟩:=GN.mp e';refine⟨G,ρ,x,er.or,e1,λG' H' x'=>?_⟩;cases x with
 |true=>exact lA wG!
 |false=>exact lB wG!⟩
def Ir(i:Nat)(fs:ao!):Ad->Option Fl:=λρ=>(e9_).bind λds=>if f_<=1000 then some (.nx ou_)else none
def SR.ownNew{K:z1!}{G0 F0 G H:Hp}{Z:St}{ρ:Ad}{i:Nat}(s:fe!)(hi:aT!)(hl:i<ev_)(r:g0_)(hp:cy_):
  SR K (i::own) G0 F0 G jK_ (Z.set i cb_) ou_:=by
 have zg:i<gM_:=by rw[s.or.len];exact hl
 have zh:Bf H jK_:=iD hp;show"#0";refine⟨⟨wG_,by rw[KW,KW,s.or.len],wH!,j5_,λj hj k hk hne a b e1 e2=>?_⟩,⟨s.ext.g,s.ext.h.trans zh,wG_,s.ext.new⟩,λj hj a e=>?_⟩
 .have cv:i≠j:=λz=>n (by rw[z];exact GX);rw[IA cv]at q ⊢;exact s.or.at_ j d q λz=>n (GP _ z)
 .obtain z|z:=GR.mp hj
  .subst z;exact⟨p,ds,vs,by rw[IL zg],by rw[IL hl],bR,s.or.sub.free hp,r⟩
  .have cv:i≠j:=λy=>hi (y▸z);obtain⟨a,uf,gh,B,J,h3,h4,h5⟩:=s.or.own_ j z;exact⟨a,uf,gh,by rw[IA cv];exact B,by rw[IA cv];exact J,by rw[aY (ne h3)];exact h3,h4,h5⟩
 .have look:∀{j:Nat} {a:xK!},j∈i::own->(Z.set i cb_)[j]?=some j7!->(j=i/\a=p)\/(j≠i/\j∈own/\Z[j]?=some j7!/\a≠p):=λ{j a} hj e=>by
   by_cases cv:i=j
   .subst cv;rw[IL hl]at e;cases e;exact .inl bL_
   .rw[IA cv]at e;have hm:j∈own:=(GR.mp hj).elim wK! id;obtain⟨a',uf,gh,B,J,h3,h4,h5⟩:=s.or.own_ j hm;rw[e]at J;cases J;exact .inr ⟨GT cv,hm,e,ne h3⟩
  obtain⟨z1,z2⟩|⟨z1,z2,z3,z4⟩:=look hj e1
  .obtain⟨y1,y2⟩|⟨y1,y2,y3,y4⟩:=look hk e2
   .exact absurd (z1.trans y1.symm) hne
   .rw[z2];exact GT y4
  .obtain⟨y1,y2⟩|⟨y1,y2,y3,y4⟩:=look hk e2
   .rw[y2];exact z4
   .exact s.or.dis j z2 k y2 hne a b z3 y3
 .by_cases cv:i=j
  .subst cv;rw[IL hl]at e;cases e;exact s.ext.h.free hp
  .rw[IA cv]at e;exact s.fr j ((GR.mp hj).elim wK! id) a e
def kR{i:Nat}{p3 p4:Pos}(hN:aW_)(hi:ad_)(hx:bb!)(h:jU!)(bq:aT!:=by decide)
  (hf:X.fn x=true\/X.env.scope.names.lookup x=some .local:=by first|exact .inl rfl|exact .inr rfl|assumption)(cn:swapsWith (.List es p2) (some (.Name x p3)) p4.line X.env=pure false:=by rfl):DS X own (i::own) (.Assign [.Name x p3] (.List es p2) p4) (Ir i fs):=⟨λG0 F0 O s Z H E I ⟨G,ρ,r,er,e',k⟩=>by
  refine uY hN hi hx n7_ cn hf O s Z H E I ?_;have hl:i<ev_:=by rw[I.len];exact(HC.mp hi).1
  obtain⟨ds,e1,e2⟩:=GN.mp e';split at e2
  .rename_i hsz;cases e2;exact⟨G,ρ,ds,er.or,e1,λvs G' H' x r=>⟨by rw[<-aJ r];exact gN hsz,λp hp=>k G' _ _ ((g0!).ownNew bq hl r hp)⟩⟩
  .cases e2⟩
def SR.upd{K:z1!}{G0 F0 G H:Hp}{Z:St}{ρ:Ad}{i:Nat}(s:fe!)(hi:dW_)(hp:vQ_)(r:g0_):
  SR K own G0 F0 G jK_ Z ou_:=by
 obtain⟨p',uf,gh,B,J,h3,h4,h5⟩:=s.or.own_ i hi;rw[hp]at J;cases J;have hG:∀{b u},G b=some u->b≠p:=λe=>cC e h4;have hF:∀{b u},F0 b=some u->b≠p:=λe=>cC e (s.fr i hi p hp);have zg:i<gM_:=(j7_).1;refine⟨⟨wK_,by rw[KW,s.or.len],wH!,j5_,s.or.dis⟩,⟨s.ext.g,λb u e=>by rw[aY (hF e)];exact s.ext.h b u e,wK_,s.ext.new⟩,s.fr⟩
 .have cv:i≠j:=λz=>n (z▸hi);rw[IA cv]at q;exact s.or.at_ j d q n
 .by_cases cv:i=j
  .subst cv;exact⟨p,ds,vs,by rw[IL zg],hp,bR,h4,r⟩
  .obtain⟨a,YY,UK,g1,g2,g3,g4,g5⟩:=s.or.own_ j hj;have ne:a≠p:=GT (s.or.dis i hi j hj cv p a hp g2);exact⟨a,YY,UK,by rw[IA cv];exact g1,g2,by rw[aY ne];exact g3,g4,g5⟩
def Ku(i:Nat)(f:e_):Ad->Option Fl:=λρ=>(aj_).bind λd=>match ρ[i]? with|some (some (.lst ds))=>if f_<big then some wL! else none|_=>none
def jS{i:Nat}{x:Str}{aj ag:Pos}(bq:dW_:=by decide)(h:dj!)(hN:ad_:=by rfl)(hv:cp_:=by first|exact Or.inl rfl|exact Or.inr b!|exact Or.inr a4!)
  (hd:B_:=by decide)(bv:cq!:=by decide)
  (hst:j8!:=by rfl)(iy:((jn!).all c9_&&(da!).all da_
   &&decide wL_)=true:=by rfl) (fg:c9!:=by rfl)
  (ez:attributeBase bk_ "append" X.env j8_=eval bk_ X.env:=by rfl) (iz:j9!:=by rfl) (fq:swapsWith wM! none pos.line X.env=pure false:=by rfl):
  DS X own own (.Expr wM! pos) (Ku i f):=⟨λG0 F0 O s Z H E I ⟨G,ρ,r,er,e',k⟩=>by
  refine oO (a5k LQ PySem.F.slot_list_append PySem.F.type_list_append zE jP_ wM_ ez iy fg hst iz) fq O s Z H E I ?_;obtain⟨d,e1,e2⟩:=GN.mp e';obtain⟨p,ds,vs,B,J,h3,h4,h5⟩:=er.or.own_ i bq;rw[B]at e2;simp only at e2;split at e2
  .rename_i hl;cases e2;refine⟨fe_,J,oA_,G,ρ,d,er.or,e1,λv G' H' x r=>⟨p,vs,v,rfl,rfl,x.h _ _ h3,?_,?_⟩⟩
   .rw[<-aJ h5];exact HP hl (cP x_)
   .exact k G' Z _ ((g0!).upd bq J (cW oB! (Am.cons r Am.nil)))
  .cases e2⟩
def Tw(i:Nat)(fx fv:e_):Ad->Option Fl:=λρ=>(fv ρ).bind λd=>(fx ρ).bind λx=>match x,ρ[i]? with|.int j,some (some (.lst ds))=>(oC!).map λk=>.nx wN_|_,_=>none
def c0a{i:Nat}{x:Str}{fx fv:e_}(bq:dW_:=by decide)(hx:wO!)(hv:DE X own e fv)(hN:ad_:=by rfl)(zi:cp_:=by first|exact Or.inl rfl|exact Or.inr b!|exact Or.inr a4!)
  (hd:B_:=by decide)(bv:cq!:=by decide)
  (ha:∀v,assign wO_ X.env v=(do
   let ov <-holding [v] j8_
   let iv <-holding [v,ov] (eval ix X.env)
   standAt p2
   holding eD_ mh!
   release eD_ []):=by intro _;rfl)
  (hs:swapsWithSole j9_ e pos.line X.env=pure false:=by rfl) (hw:swappedStores j9_ e X.env=pure none:=by rfl)
  (B:(assignEach j9_ X.env).map s_=[assign wO_ X.env]:=by rfl):
  DS X own own (.Assign j9_ e pos) (Tw i fx fv):=⟨λG0 F0 O s Z H E I ⟨G,ρ,r,er,e',k⟩=>by
  refine b6x hv.ok (b7b wP! hx.ok a4l ha) hs hw B O s Z H E I ?_;obtain⟨d,e1,e2⟩:=GN.mp e';obtain⟨z,e3,e4⟩:=GN.mp e2;obtain⟨p,ds,vs,B,J,h3,h4,h5⟩:=er.or.own_ i bq;rw[B]at e4;cases z<;>first|cases e4|skip
  rename_i j;obtain⟨n,e5,rfl⟩:=GU.mp (show(oC!).map _=some r from e4);refine⟨G,ρ,d,er.or,e1,λv G' H' x r=>⟨fe_,J,G',ρ,eG!,er.or.grow x,e3,wP_⟩⟩;cases bA r2;refine⟨p,vs,j,n,rfl,rfl,wQ!,by rw[<-aJ h5];exact e5,?_⟩;exact k G2 Z _ (((g0!).grow x2).upd bq J (uT (r.mono x2.g) n ((oB!).mono x2.g)))⟩
def Lk(i:Nat)(fx:e_):Ad->Option D:=λρ=>(fx ρ).bind λx=>match x,ρ[i]? with|.int j,some (some (.lst ds))=>Da ds j|_,_=>none
def rS{i:Nat}{x:Str}{fx:e_}(bq:dW_:=by decide)(hx:wO!)(hs:Pk ix)(hN:ad_:=by rfl)(zi:cp_:=by first|exact Or.inl rfl|exact Or.inr b!|exact Or.inr a4!)
  (hd:B_:=by decide)(bv:cq!:=by decide):DE X own (.Subscript bk_ ix pos) (Lk i fx):=
 eL (b7m b2c wP! hx.ok hs) λZ G H Q ρ d er e k=>by
  obtain⟨z,e3,e4⟩:=GN.mp e;obtain⟨p,ds,vs,B,J,h3,h4,h5⟩:=er.own_ i bq;rw[B]at e4;cases z<;>first|cases e4|skip
  rename_i j;have e5:Da ds j=some d:=e4;obtain⟨v,e6,r6⟩:=oK h5 e5;refine⟨fe_,J,G,ρ,eG!,er,e3,wP_⟩;cases bA r2;exact⟨p,vs,j,v,rfl,rfl,Ff.of (x2.h _ _ h3),e6,k v G2 H2 x2 (r6.mono x2.g)⟩
def Ql(bnd:ag!)(q:aD!):List D->Ad->Option Fl
 |[],ρ=>some ap_
 |d::ds,ρ=>(j3!).bind λal=>(q al).bind λr=>match r with|.nx bh=>Ql bnd q ds bh|.rt d=>some a6_
def Ng(fi:ao!)(bnd:ag!)(q:aD!):Ad->Option Fl:=λρ=>(fi ρ).bind λds=>Ql bnd q ds ρ
def Qr(F0 G1:Hp):Hp:=λb=>match F0 b with|some o=>some o|none=>G1 b
def SR.base{K:z1!}{G0 F0 G1 H1:Hp}{Z:St}{ρ:Ad}(s:SR K own G0 F0 G1 H1 Z ρ):SR K own G1 g1_ G1 H1 Z ρ:=by
 refine⟨s.or,⟨Bf.refl _,jL_,s.or.sub,dm_⟩,wQ_⟩
 .unfold Qr at e;show"!7"
  .rename_i o ho;cases e;exact s.ext.h b _ ho
  .exact s.or.sub b u e
 .obtain⟨p',ds,vs,B,J,h3,h4,h5⟩:=s.or.own_ i hi;rw[e]at J;cases J;unfold Qr;rw[s.fr i hi p e];exact h4
def wM{G0 F0 G1 H1 G' H':Hp}(x:wR!)(y:Cm G1 g1_ G' H'):Cm G0 F0 G' H':=by
 refine⟨x.g.trans y.g,λb u e=>y.h b u ?_,y.sub,bh_⟩
 .unfold Qr;rw[e]
 .obtain z|z:=y.new b h
  .exact x.new b z
  .right;unfold Qr at z;split at z
   .cases z
   .assumption
def SR.unbase{K:z1!}{G0 F0 G1 H1 G' H':Hp}{Z:St}{ρ:Ad}(x:wR!)(s:SR K own G1 g1_ G' H' Z ρ):SR K own G0 F0 G' H' Z ρ:=
 ⟨s.or,wM x s.ext,λi hi p e=>by
  have z:=s.fr i hi p e;unfold Qr at z;split at z
  .cases z
  .assumption⟩
def Bq(i:Nat):D->Ad->Option Ad:=λd ρ=>some bR_
def a3s{i:Nat}(hp:fZ!)(hc:bb_)(a9:DI X own dl! iter fi)(hN:aW_)(hi:ad_)(hx:bb!)(Y:Ws X own own body q1)(bq:aT!:=by decide)
  (hf:X.fn x=true\/X.env.scope.names.lookup x=some .local:=by first|exact .inl rfl|exact .inr rfl|assumption)(hs:cX_:=by intro _;rfl):
  DS X own own (.For dl! iter body [] pos) (Ng fi (Bq i) q1):=⟨λG0 F0 O s Z H E I ⟨G,ρ,r,er,e',k⟩=>by
 obtain⟨ds,e1,e2⟩:=GN.mp e';have b8:Ov X body (λE Z H=>∃A hb,CC X.K A hb own own q1 E Z H):=λO s Z H E I ⟨A,hb,h⟩=>Y.ok A hb O s Z H E I h;refine b6w hp hc a9.ok (bF hN hi hx hf) b8 hs O s Z H E I ⟨G,ρ,ds,er.or,e1,wB_⟩;have UL:Cm G0 F0 G1 H1:=er.ext.trans x1;refine⟨λn m h2 H'=>n<=f_/\m=f_ - n/\∃G' ρ',SR X.K own G1 g1_ G' H' h2 ρ'/\Ql (Bq i) q1 nV_ ρ'=some r,
  ⟨f_,JA _,rfl,G1,ρ,(er.grow x1).base,e2⟩,?_⟩
 rintro n m h2 H' ⟨hn,rfl,G',ρ',cr,e3⟩;obtain⟨og,oi⟩:=fm n G' H' cr.ext.g cr.or.sub;by_cases ao:n<f_
 .right;have hd:ds[n]?=some ds[n]:=by simp[ao]
  have zf:ds.drop n=ds[n]::ds.drop bF!:=LK ao;rw[zf]at e3;unfold Ql at e3;obtain⟨al,e4,e3⟩:=GN.mp e3;obtain⟨r1,e5,e3⟩:=GN.mp e3;cases e4;obtain⟨go,yl⟩:=og _ hd;refine⟨go,λdb H2=>∃G2 bh,SR X.K own G1 g1_ G2 H2 db bh/\Ql (Bq i) q1 (ds.drop bF!) bh=some r,λdb H2 ⟨G2,bh,B,J⟩=>⟨f_ - bF!,u!,ao,rfl,G2,bh,B,J⟩,j4!⟩;obtain⟨G2,x2,r2⟩:=yl v H2 hy;refine⟨G1,Qr F0 G1,G2,_,r1,(cr.grow x2).set bq r2,e5,?_⟩;cases r1 with
  |nx bh=>exact λG3 gq H3 ky=>⟨G3,bh,ky,e3⟩
  |rt d=>
   cases e3;exact λw G3 H3 x3 r3=>k w G3 H3 (wM UL x3) r3
 .left;have ip:n=f_:=by omega
  refine oE!;rw[ip,OY]at e3;cases e3;exact k G' h2 H' (SR.unbase UL cr)⟩
def uH{K:z1!}{G H:Hp}{N:n!}{ds:a_}(s:L!)(r:g0_):OR K [] G H (L2.Md N vs) g2!:=by
 have hl:=aJ r;unfold L2.Md;refine⟨s,by simp[hl],nX!,an_,an_⟩;by_cases hi:i<f_
 .rw[JQ gu!,IB]at q;obtain⟨d',B,J⟩:=GU.mp q;cases J;obtain⟨v,h3,h4⟩:=fQ r B;exact⟨v,by rw[JQ (by simpa[<-hl]using hi),IB,h3];rfl,h4⟩
 .rw[eR_,KM]at q;split at q<;>cases q
end
def c8u{K:z1!}{mg:y_}{st:Stmt}{N ps:n!}{k:Nat}{σ:i_}{q:aD!}{g:ac_}
  (F:wS_)(S:dc_)
  (Y:∀(af:ys!) (A:xX!) (outer:V_) (s:z2!) (H:Hp) (E:XK),Ak k oE_->Ws (oF!).nox [] σ bz! q)
  (hg:∀ds d,f_=T!->g ds=some d->q g2!=some a6_\/∃ρ,q g2!=some ap_/\d=.non):
  Fe P w K mg base Pf Q_ ae fd ps ka_:=by
 refine wT_;obtain⟨hl,G,ds,d,sub,r,e,kk⟩:=h;refine⟨_,(wU!).ok G H,?_⟩;have er:=uH (N:=N) sub r;rcases hg ds d (by rw[aJ r];exact hl) e with z|⟨ρ,z,rfl⟩
 .exact⟨G,_,_,wU_,z,λv G' H' x r=>kk v G' H' x r⟩
 .exact⟨G,_,_,wU_,z,λG' h2 H' cr=>kk _ G' H' cr.ext Ar.non⟩
mutual
noncomputable def Dy:D->D->Bool
 |.non,.non=>true
 |.bl a,.bl b=>a==b
 |.bl a,.int b=>uc_==b
 |.int a,.bl b=>a==ud!
 |.int a,.int b=>a==b
 |.str a,.str b=>a==b
 |.tup xs,.tup ys=>Ih xs ys
 |.lst xs,.lst ys=>Ih xs ys
 |_,_=>false
noncomputable def Ih:List D->List D->Bool
 |[],[]=>true
 |x::xs,y::ys=>Dy x y&&Ih xs ys
 |_,_=>false
end
mutual
noncomputable def Bd:D->Bool
 |.fn _=>false
 |.dk _=>false
 |.tup xs=>Bx xs
 |.lst xs=>Bx xs
 |_=>true
noncomputable def Bx:List D->Bool
 |[]=>true
 |d::ds=>Bd d&&Bx ds
end
section
variable{X:Cx}{O:List (Addr×Obj)}{Z:St}{H:Hp}{s:z2!}
def uG(I:c!)(h:kb!)(h':Ff X.K H a ws):False:=by obtain⟨_,_,⟨o,e,c,_⟩,_⟩:=I.tuple h;obtain⟨_,_,⟨o',n,e',c',_⟩,_⟩:=I.list h';rw[e]at e';cases e';rw[c]at c';exact absurd c' c_
mutual
theorem a0z(I:c!):∀(d d':D) (v:V),Bd d=true->Bd d'=true->Ar X.K H d v->Ar X.K H d' v->d=d'
 |.non,d',v,n,n',r,r'=>by
  cases dY r;cases d'<;>first
   |rfl
   |(unfold Ar at r';cases r';done)
   |(obtain⟨a,vs,e,_⟩:=bO r';cases e)
   |(obtain⟨a,vs,e,_⟩:=bQ r';cases e)
   |(unfold Bd at n';cases n')
 |.bl b,d',v,n,n',r,r'=>by
  cases cV r;cases d'<;>first
   |(cases cV r';rfl;done)
   |(unfold Ar at r';cases r';done)
   |(obtain⟨a,vs,e,_⟩:=bO r';cases e)
   |(obtain⟨a,vs,e,_⟩:=bQ r';cases e)
   |(unfold Bd at n';cases n')
 |.int b,d',v,n,n',r,r'=>by
  cases bA r;cases d'<;>first
   |(cases bA r';rfl;done)
   |(unfold Ar at r';cases r';done)
   |(obtain⟨a,vs,e,_⟩:=bO r';cases e)
   |(obtain⟨a,vs,e,_⟩:=bQ r';cases e)
   |(unfold Bd at n';cases n')
 |.str b,d',v,n,n',r,r'=>by
  cases bY r;cases d'<;>first
   |(cases bY r';rfl;done)
   |(unfold Ar at r';cases r';done)
   |(obtain⟨a,vs,e,_⟩:=bO r';cases e)
   |(obtain⟨a,vs,e,_⟩:=bQ r';cases e)
   |(unfold Bd at n';cases n')
 |.tup xs,d',v,n,n',r,r'=>by
  obtain⟨a,vs,rfl,q,rr⟩:=bO r;cases d' with
  |tup ys=>
   obtain⟨a',gh,e,q',b7⟩:=bO r';cases e;have:=I.tuple_inj q q';subst this;unfold Bd at n n';rw[wV!]
  |lst ys=>
   obtain⟨a',gh,e,q',b7⟩:=bQ r';cases e;exact(uG I q q').elim
  |fn b=>unfold Bd at n';cases n'
  |dk b=>unfold Bd at n';cases n'
  |non=>cases dY r'
  |bl b=>cases cV r'
  |int b=>cases bA r'
  |str b=>cases bY r'
 |.lst xs,d',v,n,n',r,r'=>by
  obtain⟨a,vs,rfl,q,rr⟩:=bQ r;cases d' with
  |lst ys=>
   obtain⟨a',gh,e,q',b7⟩:=bQ r';cases e;have:=I.list_inj q q';subst this;unfold Bd at n n';rw[wV!]
  |tup ys=>
   obtain⟨a',gh,e,q',b7⟩:=bO r';cases e;exact(uG I q' q).elim
  |fn b=>unfold Bd at n';cases n'
  |dk b=>unfold Bd at n';cases n'
  |non=>cases dY r'
  |bl b=>cases cV r'
  |int b=>cases bA r'
  |str b=>cases bY r'
 |.fn a,d',v,n,n',r,r'=>by unfold Bd at n;cases n
 |.dk a,d',v,n,n',r,r'=>by unfold Bd at n;cases n
theorem uU(I:c!):∀(ds es:a_) (vs:k!),Bx ds=true->Bx es=true->Am X.K H ds vs->Am X.K H es vs->ds=es
 |[],es,vs,n,n',r,r'=>by
  cases cM r;cases es with
  |nil=>rfl
  |cons e es=>obtain⟨v,t,z,_⟩:=bJ r';cases z
 |d::ds,es,vs,n,n',r,r'=>by
  obtain⟨v,t,rfl,r1,r2⟩:=bJ r;cases es with
  |nil=>cases cM r'
  |cons e es=>
   obtain⟨v',t',z,zj,zk⟩:=bJ r';cases z;unfold Bx at n n';rw[HZ]at n n';rw[a0z I d e v n.1 n'.1 r1 zj,uU I ds es t n.2 n'.2 r2 zk]
end
mutual
theorem iM:∀d:D,Bd d=true->Dy d d=true
 |.non,_=>by simp[Dy]
 |.bl b,_=>by simp[Dy]
 |.int i,_=>by simp[Dy]
 |.str s,_=>by simp[Dy]
 |.tup xs,h=>by unfold Dy;exact rL xs wW!
 |.lst xs,h=>by unfold Dy;exact rL xs wW!
 |.fn a,h=>by simp[Bd]at h
 |.dk k,h=>by simp[Bd]at h
theorem rL:∀ds:List D,Bx ds=true->Ih ds ds=true
 |[],_=>by simp[Ih]
 |d::ds,h=>by
  unfold Bx at h;rw[HZ]at h;unfold Ih;rw[iM d h.1,rL ds h.2];rfl
end
def a4v(I:c!)(d d':D)(v:V)(n:ce!)(n':ff!)(r:d8_)(r':Ar X.K H d' v):Dy d d'=true:=by rw[<-a0z I d d' v n n' r r'];exact iM d n
def mW(A:xX!):A.in1.units=A.units+1:=rfl
def mG:∀(xs ys:a_),i!=X_->((List.range i!).all λj=>Dy (xs.getD j .non) (ys.getD j .non))=Ih xs ys
 |[],[],_=>rfl
 |x::xs,y::ys,h=>by
  have ih:=mG xs ys kb_;unfold Ih;rw[HA,List.range_succ_eq_map,MM,<-ih,List.all_map];rfl
 |[],_::_,h=>by simp at h
 |_::_,[],h=>by simp at h
def lZ:∀(xs ys:a_),i!≠X_->Ih xs ys=false
 |[],[],h=>absurd rfl h
 |x::xs,y::ys,h=>by
  unfold Ih;rw[lZ xs ys kb_,PY]
 |[],_::_,_=>rfl
 |_::_,[],_=>rfl
def pO{ds es:a_}{us us':g_}(rd:g2_)(re:g3!)(rv:ey_)(au:Ba ws us')
  (h:∀(j:Nat) u u',us[j]?=some u->us'[j]?=some u'->SeqAt.EqAt A s u u' kc!):
  ∀j (B:j<kc_) (J:j<oH_),SeqAt.EqAt A s cx![j] oI![j] kc!:=λj B J=>by
 have l1:j<as!:=by simpa using B
 have l2:j<us'.length:=by simpa using J
 exact h j _ _ (by simp[l1]) (by simp[l2])
def yT{ds es:a_}{A:xX!}(I:c!)(qa:kb!)(qb:Gd X.K H b ws)(rd:g2_)(re:g3!)(hu:aq!)
  (h:kd!):SeqAt.RcAt A s S_ dP_ (Ih ds es):=by
 obtain⟨us,rv,p1,_⟩:=I.tuple qa;obtain⟨us',au,p2,_⟩:=I.tuple qb;have B:=aJ rd;have J:=aJ re;have h3:=eF!;have h4:=kd_;have z:=SeqAt.RcAt.tuples (A:=A) (e:=ke!) p1 p2 hu ke_;have e:wW_=Ih ds es:=by
  show"#4"
  .rw[hl,Nat.min_self,<-hl,kf!,hl];simp
  .rw[kf_];have:(f_==U_)=false:=by simpa using hl
   rw[this,PY]
 rw[e]at z;exact z
def a5b{ds es:a_}{A:xX!}(I:c!)(qa:oK!)(qb:Ff X.K H b ws)(rd:g2_)(re:g3!)(hu:aq!)
  (h:kd!):SeqAt.RcAt A s S_ dP_ (Ih ds es):=by
 show"!@";have h4:=kd_;by_cases hl:f_=U_
 .have z:=SeqAt.RcAt.lists (A:=A) (e:=ke!) p1.isList p2.isList n9_ hu ke_;rw[GW,<-h3,<-B,kf!]at z;exact z
 .rw[kf_];exact SeqAt.RcAt.lists_lengths p1.isList p2.isList wX! hu
def b9j(I:c!)(q:kb!):∃items,s.heap.IsTuple a items:=let⟨its,_,p,_⟩:=I.tuple q;⟨_,p⟩
def b4p(I:c!)(q:oK!):∃items,s.heap.IsList a items:=let⟨its,_,p,_⟩:=I.list q;⟨_,p.isList⟩
inductive RV(X:Cx)(H:Hp)(s:z2!):D->Value->Prop
 |non:RV X H s .non .none
 |bl (b:Bool):RV X H s bK_ lZ_
 |int (i:Int) (t:Tok):RV X H s bp_ dx!
 |str (x:Str) (t:Tok):RV X H s cU_ lt_
 |tup {xs:a_} {a:xK!} {its:aa_}:s.heap.IsTuple a its->RV X H s bJ! S_
 |lst {xs:a_} {a:xK!} {its:aa_}:s.heap.IsList a its->RV X H s N! S_
def yQ(I:c!)(n:ce!)(r:d8_)(ru:bo_):RV X H s d u:=by
 cases d with
 |non=>cases dY r;cases ru;exact .non
 |bl b=>cases cV r;cases ru;exact .bl b
 |int b=>cases bA r;obtain⟨t,rfl⟩:=ru;exact .int b t
 |str b=>cases bY r;obtain⟨t,rfl⟩:=ru;exact .str b t
 |tup ys=>obtain⟨a,ws,rfl,q,_⟩:=bO r;cases ru;obtain⟨its,p⟩:=b9j I q;exact .tup p
 |lst ys=>obtain⟨a,ws,rfl,q,_⟩:=bQ r;cases ru;obtain⟨its,p⟩:=b4p I q;exact .lst p
 |fn a=>unfold Bd at n;cases n
 |dk a=>unfold Bd at n;cases n
def mB(I:c!){A:xX!}(n:ce!)(n':ff!)(hu:aq!)(r:d8_)(r':g3_)(ru:bo_)(ay:g4!)(hT:∀xs ys,d=.tup xs->d'=.tup ys->SeqAt.EqAt A s u u' dn!)(hL:∀xs ys,d=.lst xs->d'=.lst ys->SeqAt.EqAt A s u u' dn!):SeqAt.EqAt A s u u' dn!:=by
 show"!l"
 all_goals first|exact hT _ _ rfl rfl|exact hL _ _ rfl rfl|(unfold Dy;with_reducible first|exact .none_none|exact .same _|exact .none_bool _|exact .none_int _ _|exact .none_str _ _|exact .none_tuple ‹_› hu|exact .none_list ‹_› hu|exact .bool_none _|exact .bool_bool _ _|exact .bool_int _ _ _|exact .bool_str _ _ _|exact .bool_tuple _ ‹_› hu|exact .bool_list _ ‹_› hu|exact .int_none _ _|exact .int_bool _ _ _|exact .int_int _ _ _ _|exact .int_str _ _ _ _|exact .int_tuple _ _ ‹_› hu|exact .int_list _ _ ‹_› hu|exact .str_none _ _|exact .str_bool _ _ _|exact .str_int _ _ _ _|exact .str_str _ _ _ _|exact .str_tuple _ _ ‹_› hu|exact .str_list _ _ ‹_› hu|exact .tuple_none ‹_› hu|exact .tuple_bool _ ‹_› hu|exact .tuple_int _ _ ‹_› hu|exact .tuple_str _ _ ‹_› hu|exact .tuple_list ‹_› ‹_› hu|exact .list_none ‹_› hu|exact .list_bool _ ‹_› hu|exact .list_int _ _ ‹_› hu|exact .list_str _ _ ‹_› hu|exact .list_tuple ‹_› ‹_› hu)
def c6g(I:c!){A:xX!}(n:ce!)(n':ff!)(hu:aq!)(r:d8_)(r':g3_)(ru:bo_)(ay:g4!)(hT:∀xs ys,d=.tup xs->d'=.tup ys->SeqAt.RcAt A s u u' dn!)(hL:∀xs ys,d=.lst xs->d'=.lst ys->SeqAt.RcAt A s u u' dn!):SeqAt.RcAt A s u u' dn!:=by
 show"!l"
 all_goals first|exact hT _ _ rfl rfl|exact hL _ _ rfl rfl|(unfold Dy;with_reducible first|exact .none_none|exact .same _|exact .none_bool _|exact .none_int _ _|exact .none_str _ _|exact .none_tuple ‹_› hu|exact .none_list ‹_› hu|exact .bool_none _|exact .bool_bool _ _|exact .bool_int _ _ _|exact .bool_str _ _ _|exact .bool_tuple _ ‹_› hu|exact .bool_list _ ‹_› hu|exact .int_none _ _|exact .int_bool _ _ _|exact .int_int _ _ _ _|exact .int_str _ _ _ _|exact .int_tuple _ _ ‹_› hu|exact .int_list _ _ ‹_› hu|exact .str_none _ _|exact .str_bool _ _ _|exact .str_int _ _ _ _|exact .str_str _ _ _ _|exact .str_tuple _ _ ‹_› hu|exact .str_list _ _ ‹_› hu|exact .tuple_none ‹_› hu|exact .tuple_bool _ ‹_› hu|exact .tuple_int _ _ ‹_› hu|exact .tuple_str _ _ ‹_› hu|exact .tuple_list ‹_› ‹_› hu|exact .list_none ‹_› hu|exact .list_bool _ ‹_› hu|exact .list_int _ _ ‹_› hu|exact .list_str _ _ ‹_› hu|exact .list_tuple ‹_› ‹_› hu)
mutual
theorem b9x(I:c!):∀(d d':D) (A:xX!) (v v':V) (u u':ys!),Bd d=true->Bd d'=true->A.units+Gs d<cLine->Ar X.K H d v->Ar X.K H d' v'->Bp v u->Bp v' u'->SeqAt.EqAt A s u u' dn!
 |.non,d',A,v,v',u,u',n,n',hu,r,r',ru,ay=>mB I n n' a! r r' ru ay a7! a7!
 |.bl _,d',A,v,v',u,u',n,n',hu,r,r',ru,ay=>mB I n n' a! r r' ru ay a7! a7!
 |.int _,d',A,v,v',u,u',n,n',hu,r,r',ru,ay=>mB I n n' a! r r' ru ay a7! a7!
 |.str _,d',A,v,v',u,u',n,n',hu,r,r',ru,ay=>mB I n n' a! r r' ru ay a7! a7!
 |.fn _,d',A,v,v',u,u',n,n',hu,r,r',ru,ay=>mB I n n' a! r r' ru ay a7! a7!
 |.dk _,d',A,v,v',u,u',n,n',hu,r,r',ru,ay=>mB I n n' a! r r' ru ay a7! a7!
 |.tup xs,d',A,v,v',u,u',n,n',hu,r,r',ru,ay=>mB I n n' a! r r' ru ay (λ_ ys e e'=>by
  cases e;subst e';obtain⟨a,vs,rfl,q,rr⟩:=bO r;obtain⟨b,ws,rfl,q',b7⟩:=bO r';cases ru;cases ay;by_cases ml:a=b
  .subst ml;rw[wY!];exact .same _
  .unfold Bd at n n';unfold Gs at hu;unfold Dy;exact .of_refs ml (yT I q q' rr b7 a! λus us' rv au=>kQ I xs ys A.in1 vs ws us us' n n' ff_ rr b7 rv au)) a7!
 |.lst xs,d',A,v,v',u,u',n,n',hu,r,r',ru,ay=>mB I n n' a! r r' ru ay a7! (λ_ ys e e'=>by
  cases e;subst e';obtain⟨a,vs,rfl,q,rr⟩:=bQ r;obtain⟨b,ws,rfl,q',b7⟩:=bQ r';cases ru;cases ay;by_cases ml:a=b
  .subst ml;rw[wY!];exact .same _
  .unfold Bd at n n';unfold Gs at hu;unfold Dy;exact .of_refs ml (a5b I q q' rr b7 a! λus us' rv au=>kQ I xs ys A.in1 vs ws us us' n n' ff_ rr b7 rv au))
theorem kQ(I:c!):∀(ds es:a_) (A:xX!) (vs ws:k!) (us us':g_),Bx ds=true->Bx es=true->A.units+Dq ds<cLine->Am X.K H ds vs->Am X.K H es ws->Ba vs us->Ba ws us'->
  ∀(j:Nat) u u',us[j]?=some u->us'[j]?=some u'->SeqAt.EqAt A s u u' kc!
 |[],es,A,vs,ws,us,us',n,n',hu,r,r',rv,au,j,u,u',e,e'=>by
  cases cM r;cases rv;simp at e
 |d::ds,es,A,vs,ws,us,us',n,n',hu,r,r',rv,au,j,u,u',e,e'=>by
  obtain⟨v,t,rfl,r1,r2⟩:=bJ r;cases es with
  |nil=>
   cases cM r';cases au;simp at e'
  |cons c es=>
   obtain⟨w,t',rfl,zj,zk⟩:=bJ r';unfold Bx at n n';rw[HZ]at n n';unfold Dq at hu;cases rv with
   |cons qu ug=>
    cases au with
    |cons YZ Y0=>
     cases j with
     |zero=>
      simp at e e';subst e e';exact b9x I d c A v w _ _ n.1 n'.1 a! r1 zj qu YZ
     |succ j=>
      exact kQ I ds es A t t' _ _ n.2 n'.2 a! r2 zk ug Y0 j u u' cP_ (by simpa using e')
end
def c6h(I:c!)(d d':D){A:xX!}(n:ce!)(n':ff!)(hu:wY_)(r:d8_)(r':g3_)(ru:bo_)(ay:g4!):SeqAt.RcAt A s u u' dn!:=
 c6g I n n' a! r r' ru ay (λxs ys e e'=>by
  subst e e';obtain⟨a,vs,rfl,q,rr⟩:=bO r;obtain⟨b,ws,rfl,q',b7⟩:=bO r';cases ru;cases ay;unfold Bd at n n';unfold Gs at hu;unfold Dy;exact yT I q q' rr b7 a! λus us' rv au=>kQ I xs ys A.in1 vs ws us us' n n' ff_ rr b7 rv au) (λxs ys e e'=>by
  subst e e';obtain⟨a,vs,rfl,q,rr⟩:=bQ r;obtain⟨b,ws,rfl,q',b7⟩:=bQ r';cases ru;cases ay;unfold Bd at n n';unfold Gs at hu;unfold Dy;exact a5b I q q' rr b7 a! λus us' rv au=>kQ I xs ys A.in1 vs ws us us' n n' ff_ rr b7 rv au)
def BB(K:z1!):R2:=λx y H Q=>∃dx dy,Ar K H dx x/\Ar K H dy y/\Bd dx=true/\Bd dy=true/\Gs dx<=40/\Q (.bl (Dy dx dy)) H
def bZ(hu:aE_):Gi X (compareOp .Eq) (BB X.K):=by intro O s Z H x y v u Q I rx ry h;obtain⟨dx,dy,r1,r2,n1,n2,hd,q⟩:=h;exact c6h I dx dy n1 n2 a! r1 r2 rx ry X.prog X.w X.xe _ wZ!
def Bb:D->D->Option D:=λx y=>if Bd x&&Bd y&&decide (Gs x<=40)then some (.bl (Dy x y))else none
def cB{K:z1!}:Ie K (BB K) Bb:=by
 show"!0";unfold Bb at e;show"!7"
 .show"!s";cases e;exact wZ_
 .cases e
end
section
variable{X:Cx}{own:List Nat}{e a b c o i tg:Expr}{es:List Expr}{pos p2:Pos}{f fa fb fc fe:Ad->Option D}{fs fi:Ad->Option (List D)}{ft fu:Ad->Option Bool}
def Cb(g g':a4_)(fa fb fc:e_):Ad->Option D:=λρ=>(e8!).bind λx=>(jQ_).bind λy=>(g x y).bind λz=>match z with
 |.bl true=>(fc ρ).bind λu=>g' y u
 |.bl false=>some ah_
 |_=>none
def a7h{op eh:CmpOp}{r r':R2}{g g':a4_}(ho:b4_)(hg:dX_)(dz:iE!)(uh:Ie X.K r' g')(ha:Y_)(Y:cA!)(hc:DE X own c fc)
  (hm:iE_:=by with_unfolding_all rfl):DE X own iF! w0!:=
 eL (b7n ho dz ha.ok Y.ok hc.ok hm) λZ G H Q ρ d er e k=>by
  obtain⟨x,e1,e⟩:=GN.mp e;obtain⟨y,e2,e⟩:=GN.mp e;obtain⟨z,e3,e⟩:=GN.mp e;refine w0_;have om:=s1.trans gP_;cases z<;>first|cases e|skip
  rename_i bb;cases cV r3;refine w1!;cases bb with
  |true=>
   obtain⟨u,e4,e⟩:=GN.mp e;exact lA ⟨G3,ρ,u,er.grow om,e4,λq G4 H4 s4 r4=>uh s4.sub w1_ r4 e λv G5 H5 s5 r5=>k v G5 H5 w2! r5⟩
  |false=>
   cases e;exact lB (k _ G3 H3 om Ar.bl)
def BM(f:e_):Ad->Option D:=λρ=>(aj_).bind λd=>match d with|.int i=>some (.int (-i))|_=>none
def c8x(h:Y_):DE X own (.UnaryOp .USub a pos) (BM fa):=
 eL (d0k c5y h.ok) λZ G H Q ρ d er e k=>by
  obtain⟨x,e1,e⟩:=GN.mp e;cases x<;>first|cases e|skip
  refine fd_;cases bA r1;exact⟨_,rfl,k _ G1 H1 s1 Ar.int⟩
def Kd:D->Bool
 |.non=>true
 |.bl _=>true
 |.int _=>true
 |.str _=>true
 |_=>false
def a7a{K:z1!}{H:Hp}(h:Kd d=true)(r:gL!):Mo v=true:=by
 cases d<;>first
  |(cases h;done)
  |(cases dY r;rfl)
  |(cases cV r;rfl)
  |(cases bA r;rfl)
  |(cases bY r;rfl)
def c4b{K:z1!}{H:Hp}(h:Kd d=true)(h':Kd d'=true)(r:gL!)(r':Ar K H d' v'):Ww v v'=Dy d d':=by
 cases d<;>first
  |(cases h;done)
  |skip
 all_goals (cases d'<;>first
  |(cases h';done)
  |skip)
 all_goals first
  |(cases dY r)
  |(cases cV r)
  |(cases bA r)
  |(cases bY r)
 all_goals first
  |(cases dY r')
  |(cases cV r')
  |(cases bA r')
  |(cases bY r')
 all_goals simp[Ww,Dy]
def a7c{K:z1!}{H:Hp}:∀{ds:a_} {vs:k!},ds.all Kd=true->Am K H ds vs->vs.all Mo=true
 |[],vs,_,r=>by cases cM r;rfl
 |d::ds,vs,h,r=>by
  obtain⟨v,t,rfl,r1,r2⟩:=bJ r;rw[MM,HZ]at h;rw[MM,HZ];exact⟨a7a h.1 r1,a7c h.2 r2⟩
def a7b{K:z1!}{H:Hp}(hx:Kd x=true)(rx:Ar K H x v):∀{ds:a_} {vs:k!},ds.all Kd=true->Am K H ds vs->CK v vs=ds.any λd=>Dy d x
 |[],vs,_,r=>by cases cM r;rfl
 |d::ds,vs,h,r=>by
  obtain⟨w,t,rfl,r1,r2⟩:=bJ r;rw[MM,HZ]at h;have ih:=a7b hx rx h.2 r2;unfold CK at ih ⊢;rw[LH,LH,ih,c4b h.1 hx r1 rx]
def Zi:D->Option aL!
 |.tup xs=>some xs
 |.lst xs=>some xs
 |_=>none
def Qp(neg:Bool):D->D->Option D:=λx y=>(Zi y).bind λds=>if Kd x&&ds.all Kd then some w3! else none
def c5h{K:z1!}{neg:Bool}:Ie K (CG K neg) (Qp neg):=by
 show"!0";show"!H"
 .rename_i h;rw[HZ]at h;cases e;have fin:∀{p:xK!} {vs:k!},(Ff K H p vs\/Gd K H p vs)->Am K G ds vs->y=V.ref p->CG K neg x y H Q:=λ{p vs} q r ey=>by
   refine⟨p,vs,ey,q,a7a h.1 rx,a7c h.2 r,?_⟩;rw[a7b h.1 rx h.2 r];show"!o"
  cases dy<;>first|(cases e1;done)|skip
  .cases e1;obtain⟨p,vs,ey,q,r⟩:=bO ry;exact fin (.inr kg_) r ey
  .cases e1;obtain⟨p,vs,ey,q,r⟩:=bQ ry;exact fin (.inl (sub.seq q)) r ey
 .cases e
structure Ts(X:Cx)(x:Str)(br:aN_):Prop where
 ex:∃(ad:xK!) (kvs:nU!) (vs:List w3_),X.mg x=some kh!/\oN!=false/\(∀h:Heap,X.K.In h->h.DictOf (mixKind X.prog X.w) ad vs)/\KV kvs vs/\
  (∀y,My kvs d9_=none↔br.lookup y=none)/\∀y d,br.lookup y=some d->∃v,My kvs d9_=some v/\∀H,Ar X.K H d v
def Xp(br:aN_)(neg:Bool)(f:e_):Ad->Option D:=λρ=>(aj_).bind λd=>match d with|.str y=>some (.bl (if neg then !(oN_).isSome else(oN_).isSome))|_=>none
def Ux(br:aN_)(f:e_):Ad->Option D:=λρ=>(aj_).bind λd=>match d with|.str y=>br.lookup y|_=>none
def c4n{x:Str}{br:aN_}(hd:Ts X x br)(hg:M_)(ha:Y_)(cn:BR a)(av:B_:=by decide):DE X own (.Subscript dl! a pos) (Ux br fa):=by
 show"#C";refine eL (t:=λZ H Q=>tD X.K own fa Z H λv H1=>∃y u,v=.str y/\My kvs d9_=some u/\Q u H1) w4! λZ G H Q ρ d er e k=>?_
 .refine c1o PySem.F.slot_dict_getitem.lookup cn (gZ I hg kg (dA w4_ λv s1 ⟨y,H1,I1,r1,z,u,hz,hu,q1⟩=>?_) av);subst hz;have dd:=zl _ I1.kIn;obtain⟨w',hw,au⟩:=Nr.some_of (v:=u) (o:=valueAt vs oO!) (by rw[<-hu];exact zm.val oO!);have ty:s1.TypeIs kh! "dict":=by
   obtain⟨o,es,ep,B,J,_⟩:=dd;exact⟨o,B,J.1⟩
  exact⟨ty,wpAny_getItem_of (knd:=w5!) (k:=oO_) w5_ dd.mapOf hw ⟨u,H1,I1.tok _,au,q1⟩⟩
 .obtain⟨x,e1,e⟩:=GN.mp e;cases x<;>first|(cases e;done)|skip
  rename_i y;obtain⟨v,hv,hr⟩:=hs y d e;refine⟨G,ρ,_,er,e1,λw G1 H1 s1 r1=>?_⟩;cases bY r1;exact⟨y,v,rfl,hv,k _ G1 H1 s1 (hr G1)⟩
def Ok(P:z3!)(w:yt!)(K:z1!)(mg:y_)(base:Heap)(k:Nat)(x:Str)(ps:n!)(g:ac_):Prop:=
 ∃ae fd,Fe P w K mg base Pf k ae fd ps ka_/\Eu K fd ps []/\mg x=some bi_/\W.keepIn K bi_=true
def aO{k:Nat}{ps:n!}{g:ac_}{x:Str}(F:w6_)(hr:bv!)(hg:M_)(ha:jU_)(ar:wa_)
  (hn:wa!:=by rfl)(av:B_:=by decide)(he:am!:=by rfl)(ax:aQ!:=by rfl):
  DE X own be_ n9!:=by
 show"#.";exact c4o B hr hg h3 h4 J ha hn ar av he ax
def Yu(P:z3!)(w:yt!)(K:z1!)(mg:y_)(base:Heap)(k n:Nat)(br:oP!):Prop:=
 ∀ae g,br ae=some g->∃fd ps,T!=n/\Fe P w K mg base Pf k ae fd ps ka_/\Eu K fd ps []/\W.keepIn K bi_=true
def Oh(br:oP!)(i:Nat)(fs:ao!):Ad->Option D:=λρ=>(Aa i ρ).bind λd=>match d with|.fn ae=>(br ae).bind λg=>(e9_).bind g|_=>none
def c0j{k n j:Nat}{br:oP!}{x:Str}(F:Yu X.prog X.w X.K X.mg X.base k n br)(hr:bv!)(ha:jU_)(ar:wb_)
  (hj:j∉own:=by decide)(hN:vm!:=by rfl)(hv:cp_:=by first|exact Or.inl rfl|exact Or.inr b!|exact Or.inr a4!)(av:B_:=by decide)(bv:cq!:=by decide)
  (he:am!:=by rfl)(ax:aQ!:=by rfl):
  DE X own be_ (Oh br j fs):=⟨by
 intro O s Z H Q I h;obtain⟨G,ρ,d,er,e1,kk⟩:=h;obtain⟨z,e2,e1⟩:=GN.mp e1;cases z<;>first|(cases e1;done)|skip
 rename_i ae;obtain⟨g,e3,e1⟩:=GN.mp e1;obtain⟨ds,e4,e1⟩:=GN.mp e1;obtain⟨fd,ps,mv,F1,F2,F3⟩:=F ae g e3;obtain⟨v,B,J⟩:=er.at_ j _ (join_some e2) hj;cases fP J;refine LM (dA (kB hN hv av bv O s Z H (λu H'=>u=.ref ae/\H'=H) I ⟨_,B,rfl,rfl⟩) λu s1 ⟨y,H1,I1,r1,hy,hH⟩=>?_);subst hy hH;cases r1;refine W.callWith_K (h₀:=X.base) I1.ok.mod.kin F3 (dA (ha.ok pos O s1 Z H1 _ I1 ⟨G,ρ,ds,er,e4,λvs G2 H2 s2 r2=>(?_:(λvs H2=>Xe X.K ps.length g vs H2 Q E0) vs H2)⟩) λus s2 ⟨vs,H2,I2,r2,q2⟩=>ta!) he ax
 .exact⟨by rw[<-aJ r2,ar ρ ds e4,mv],G2,ds,d,s2.sub,r2,e1,λv G3 H3 s3 r3=>kk v G3 H3 gP_ r3⟩
 .exact a0x (dvs:=[]) (ds:=[]) F1 hr F2 .nil vA I2 r2 (by rw[HV];exact q2)⟩
def CY(x:Str):It:=⟨w8!,λi H v H'=>H'=H/\∃c,x.cps[i]?=some c/\v=.str aC!,w9!⟩
def Zk(f:e_):Ad->Option aL!:=λρ=>(aj_).bind λd=>match d with|.str x=>some w8_|_=>none
def c3o{K:z1!}{G1:Hp}{x:Str}:Xw K (CY x) w8_ G1:=by intro i G' H' s1 s2;refine⟨dm!,λhi=>by rw[HG,JB]at hi;exact NC hi.symm⟩;rw[IB]at hd;obtain⟨c,hc,rfl⟩:=GU.mp hd;rw[LI]at hc;refine w9_;obtain⟨e1,c',bn,e2⟩:=hy;subst e1;rw[hc]at bn;cases bn;subst e2;exact⟨G',j2!,Ar.str⟩
def a4h{K:z1!}{x:Str}{St':dD!}(hd:xa!)
  (W:∀A':Around,oQ_=none->Walks P w A' it [it] [it] x.cps.size (SignAt x) St')(Y1:∀(A:xX!) (i:Nat) (s:z2!) (Q:n_) (E:n_),St' i s.heap->Q b2_ s->wpAny J_ A (pyIter b2_) Q E s):
  Qy P w K g6! (CY x) [it] it xa_ where
 mem:=by simp
 obj:=λi h st b Y=>by
  have e:b=it:=by simpa using Y
  subst e;exact hd i h st.2
 keep:=λi h h' st k=>⟨st.1,by
  have Wd:=W callerA rfl;exact Wd.frame i h h' st.2 λb Y o e=>k b Y o e⟩
 item:=by
  show"!/";show"!2";refine(W X.A bq!).item i s _ _ hg st.2 λv h' tk hv h1 kk=>?_;obtain⟨cc,u,j8,rfl⟩:=hv;show"!_";exact⟨_,rfl,GO ⟨.str ⟨#[cc]⟩,H,I1,⟨u,rfl⟩,⟨rfl,cc,j8,rfl⟩,⟨hg,h1⟩,is!⟩⟩
 done:=by
  show"!/";show"!2";show"#A";exact(W X.A bq!).done s _ _ st.2 λh' tk kk=>⟨rfl,I.turned mo! f0 f1 f3 f4 f5⟩
 self:=λA i s Q E st h=>Y1 A i s Q E st.2 h
def c6n{tl:TE}(hl:PE X a tl):PI X g6! a (λZ H R=>tl Z H λv H1=>∃x,v=.str x/\R (CY x) H1):=by
 intro O s Z H R I h;refine dA rW_ λv s1 ⟨u,H1,I1,r1,x,hx,q⟩=>?_;subst hx;obtain⟨t,rfl⟩:=r1;have UN:∀(ty:String) (i:Nat) (h:Heap),h.IsStrIter s1.heap.objs.size ty x t i->∃o,h.get? A_=some o/\∀v,o.data≠.cell v:=λty i h st=>by
  show"!S"
 have fin:∀(ob:Obj) (St':dD!),Qy X.prog X.w X.K g6! (CY x) [A_] s1.heap.objs.size xa_->St' 0 (s1.heap.push ob)->
   CS X O Z g6! R (.ref A_) {s1 with heap:=s1.heap.push ob}:=λob St' T st=>by
  refine⟨A_,[A_],_,_,H1,rfl,it!,T,⟨JA _,st⟩,bq_,q⟩;have e:b=A_:=by simpa using Y
  show"!P"
 cases ha:x.cps.all (·<128)with
 |false=>
  exact wpAny_pyIter_wide ha (fin _ _ (a4h xc! (λA' hA=>Walks.strWide hA _ x t) λA i s Q E st h=>wpAny_pyIter_striter_wide st h) dE_)
 |true=>
  exact wpAny_pyIter_ascii ha (fin _ _ (a4h xc! (λA' hA=>Walks.strAscii hA _ x t) λA i s Q E st h=>wpAny_pyIter_striter_ascii st h) dE_)
def c8t(h:Y_):DI X own g6! a (Zk fa):=a7f (c6n h.ok) λZ G H R ρ ds er e k=>by
 obtain⟨d,e1,e2⟩:=GN.mp e;cases d with
 |str x=>
  cases e2;refine fd_;cases bY r1;exact⟨x,rfl,k _ G1 H1 s1 c3o⟩
 |_=>cases e2
def yG:∀{ys:n!} {us:g_},Ba xc_ us->StrsAre us ys
 |[],_,.nil=>.nil
 |y::ys,_,.cons r t=>by
  obtain⟨k,rfl⟩:=r;exact .cons y k (yG t)
def AT(K:z1!):V->List V->Hp->VK->Prop:=λx vs H Q=>∃(z:Str) (p:xK!) (ys:n!),x=.str z/\vs=[.ref p]/\Ff K H p xc_/\(xd!).sum+X_*jc!<=16777216/\Q xd_ H
def c3b:EQ X "str.join" (AT X.K):=by intro O s Z H x xs v us Q I rx r h;obtain⟨z,p,ys,rfl,rfl,hq,hz,q⟩:=h;obtain⟨t,rfl⟩:=rx;obtain⟨u,rfl,r1⟩:=rY r;cases r1;obtain⟨its,rv,pl,_⟩:=I.list hq;exact join_list pl.isList (by simpa using yG rv) hz λt' k=>⟨.str _,H,aX_,I!,q⟩
def So:List D->Option (List Str)
 |[]=>some []
 |.str x::r=>(So r).map (x::·)
 |_=>none
def a4u{K:z1!}{H:Hp}:∀{ds:a_} {vs:k!} {ys:n!},Am K H ds vs->So ds=some ys->vs=ys.map V.str
 |[],vs,ys,r,e=>by cases cM r;cases e;rfl
 |d::ds,vs,ys,r,e=>by
  obtain⟨v,t,rfl,r1,r2⟩:=bJ r;cases d<;>first|(cases e;done)|skip
  obtain⟨Y2,e1,rfl⟩:=GU.mp e;cases bY r1;rw[a4u r2 e1];rfl
def Uv:D->D->Option D
 |.str z,.lst xs=>(So xs).bind λys=>if(xd!).sum+X_*jc!<=big then some xd_ else none
 |_,_=>none
def Wl(fo fa:e_):Ad->Option D:=λρ=>(fo ρ).bind λx=>(e8!).bind λy=>Uv x y
def c4l{fo:e_}{aj ag:Pos}(ho:DE X own o fo)(ha:Y_)
  (ez:attributeBase o "join" X.env cW!=eval o X.env:=by rfl)
  (iy:((xe!).all c9_&&(da!).all da_
   &&decide xe_)=true:=by rfl)
  (fg:c9!:=by rfl) (hs:om!:=by rfl) (iz:j9!:=by rfl):
  DE X own (.Call (.Attribute o "join" aj) [a] [] ag) (Wl fo fa):=
 eL (a5k PySem.F.plainAttrs_str PySem.F.slot_str_join PySem.F.type_str_join c3b ho.ok (dD ha.ok fR hs) ez iy fg hs iz) λZ G H Q ρ d er e k=>by
  show"!;";obtain⟨y,e2,e⟩:=GN.mp e;unfold Uv at e;show"!7"
  .obtain⟨ys,e3,e⟩:=GN.mp e;show"!7"
   .show"!F";refine fd_;cases bY r1;refine⟨rfl,G1,ρ,_,di_,e2,xf!⟩;obtain⟨p,vs,rfl,q,rr⟩:=bQ r2;have:=a4u rr e3;subst this;exact⟨_,p,ys,rfl,rfl,s2.sub.seq q,IE hl d!,k _ G2 H2 dj_ Ar.str⟩
   .cases e
  .cases e
end
section
variable{prog:z3!}{w:yt!}{A:xX!}{E:Value->Shared->Prop}{s:z2!}
def a1m{n:Nat}{xs:aa_}{Q:n_}(g1:xg!)(g2:xg_)(g3:xs[n]?=some v)
  (k:∀h',h'.IsTupleIter jt tt bF!->Heap.SameBut jt s.heap h'->Q v {s with heap:=h'}):wpAny q! A xh! Q E s:=by
 show"!9";show"!^";refine GM (NE eo ed c_ (GO ⟨v,rfl,GO (k _ ?_ ea!)⟩));exact⟨_,JX _ eo (LO (KO ed _)),(xk_).trans ec,by rw[KO ed];simp[rawInt]⟩
def vH{n:Nat}{xs:aa_}{Q:n_}(hh:eR!)(g1:xg!)(g2:xg_)(g3:xs[n]?=none)
  (k:∀h' e,Heap.ExtBut jt s.heap h'->(∃o,h'.get? e=some o/\o.cls=.type "StopIteration")->E cE_ {s with heap:=h'}):wpAny q! A xh! Q E s:=by
 show"!9";show"!^";refine GM (KN (GM (NE eo ed c_ ?_)));refine GM ?_;simp only[newExc,newTuple];refine GM (JN ?_ ki_);refine GM (m:=xl!) (wpAny_of_eq (a:=co_) xl_ ?_);refine JN ?_ ki_;simp only[raiseNew];refine GM xm!
 first|rw[xm_]|rw[hh]
 refine GM xn!;exact k _ _ xn_ oR_
def bW{h h':Heap}{n:Nat}(x:h.IsTupleIter aa tt n)(hs:Heap.ExtBut bb h h')(ne:aa≠bb):h'.IsTupleIter aa tt n:=let⟨ob,eo,r⟩:=x;⟨ob,hs _ _ ne eo,r⟩
def a7u{TI TO:xK!}{k1 k2:Nat}{xs ys:aa_}{Q:n_}(D:kj_)
  (gz:kk!)(gI:kl!)(gO:kl_)
  (g1:km!)(g2:km_)(iq:g6_)(ja:g7!)(gx:xp_)(gy:xq!)
  (kk:∀h',IsZip h' z TI TO (rawInt k_)->IsPair h' TO x y->h'.IsTupleIter i1 l1 (k1+1)->h'.IsTupleIter i2 l2 (k2+1)->IsPair h' s.heap.objs.size x y->
   kn!->Q dF! {s with heap:=h'}):
  wpAny q! A xq_ (λfin s'=>∃v,fin=.done (.ret v)/\Q v s') E s:=by
 show"!v";show"!C";refine GM xu!
 replace mz:IsZip B z TI TO .ellipsis:=mz
 refine GM ?_;simp only[QQ,PK,KY,NQ];refine GM kn_;refine GM xv_;have ui:IsPair J TO p q:=bu.extBut _ _ D.TOi1 xw!;refine GM xw_;refine GM xx!
 replace wu:IsPair h3 TO x q:=wu
 refine GM (PR X!);refine GM kn_;refine GM (a1m xx_ xy! gy λh4 Y3 jp=>GO ?_);have UP:IsPair h4 TO x q:=jp.extBut _ _ D.TOi2 wu;refine GM (MD UP rfl ?_);refine GM (QJ UP λh5 wv m7=>?_)
 replace wv:IsPair h5 TO x y:=wv
 refine GM (PR (GO X!));refine GM (MD wv rfl ?_);refine GM (wpAny_newTuple ?_);have sz:ko!=k_:=by rw[m7.1,jp.1,dh.1,bu.1,b9.1]
 have UQ:IsZip h5 z TI TO .ellipsis:=m7.extBut _ _ D.TOz.symm (jp.extBut _ _ D.i2z.symm xy_);have Y4:∀c ob,c≠z->c≠TO->c≠i1->c≠i2->s.heap.get? c=some ob->h5.get? c=some ob:=λc ob c1 c2 c3 c4 e=>m7.extBut _ _ c2 (jp.extBut _ _ c4 (dh.extBut _ _ c2 (bu.extBut _ _ c3 (b9.extBut _ _ c1 e))));have Y5:h5.IsTupleIter i1 l1 (k1+1):=bW (bW (bW UO dh.extBut D.TOi1.symm) jp.extBut D.i12) m7.extBut D.TOi1.symm;have Y6:h5.IsTupleIter i2 l2 (k2+1):=bW Y3 m7.extBut D.TOi2.symm;have UR:z<ko!:=HR UQ;refine GM ?_;unfold Builtin.SmallTypes.ownedTupleHandOut;have Y7:IsZip (h5.push {cls:=.type "tuple",data:=.seq #[x,y]}) z TI TO .ellipsis:=GQ _ UQ;refine GM (MO Y7 c_ λh7 zp US=>?_)
 replace zp:IsZip h7 z TI TO (rawInt ko!):=zp
 refine MO zp c_ λh8 ww UT=>?_
 replace ww:IsZip h8 z TI TO (rawInt ko!):=ww
 have up:∀c ob,c≠z->h5.get? c=some ob->h8.get? c=some ob:=λc ob c1 e=>UT.extBut _ _ c1 (US.extBut _ _ c1 (GQ _ e));have UU:IsPair h8 h5.objs.size x y:=UT.extBut _ _ (NB UR) (US.extBut _ _ (NB UR) oT!);rw[sz]at ww UU;refine GO oT_;rw[sz];obtain⟨wx,Y8,r1⟩:=Y5;obtain⟨qz,Y9,r2⟩:=Y6;exact kk h8 ww (up _ _ D.TOz wv) ⟨wx,up _ _ D.i1z Y8,r1⟩ ⟨qz,up _ _ D.i2z Y9,r2⟩ UU λc ob c1 c2 c3 c4 e=>up c ob c1 (Y4 c ob c1 c2 c3 c4 e)
def b2u{TI TO:xK!}{k1 k2:Nat}{xs ys:aa_}{Q:Fin->Shared->Prop}(hh:eR!)(D:kj_)
  (gz:kk!)(gI:kl!)(gO:kl_)
  (g1:km!)(g2:km_)(iq:g6_)(ja:g7!)(ge:xz_)
  (kk:∀h' e,kn!->(∃ob,h'.get? e=some ob/\ob.cls=.type "StopIteration")->E cE_ {s with heap:=h'}):
  wpAny q! A xq_ Q E s:=by
 show"!v";show"!C";refine GM xu!
 replace mz:IsZip B z TI TO .ellipsis:=mz
 refine GM ?_;simp only[QQ,PK,KY,NQ];refine GM kn_;cases gx:xs[k1]? with
 |none=>
  refine GM (vH hh xu_ xv! gx λJ e bu he=>?_);obtain⟨oe,oo,uj⟩:=he;have UV:IsZip J z TI TO .ellipsis:=bu _ _ D.i1z.symm mz;have zq:e≠z:=λx=>by subst x;rw[UV]at oo;cases oo;simp at uj
  refine MO UV c_ λh3 _ dh=>kk h3 e (λc ob c1 _ c3 _ x=>dh.extBut _ _ c1 (bu _ _ c3 xA!)) ⟨oe,dh.extBut _ _ zq oo,uj⟩
 |some x=>
  have gy:ys[k2]?=none:=by
   obtain h|h:=ge
   .rw[gx]at h;cases h
   .exact h
  refine GM xv_;have ui:IsPair J TO p q:=bu.extBut _ _ D.TOi1 xw!;refine GM xw_;refine GM xx!;refine GM (PR X!);refine GM kn_;refine GM (vH hh xx_ xy! gy λh4 e jp he=>?_);obtain⟨oe,oo,uj⟩:=he;have UW:IsZip h4 z TI TO .ellipsis:=jp _ _ D.i2z.symm xy_;have zq:e≠z:=λx=>by subst x;rw[UW]at oo;cases oo;simp at uj
  refine MO UW c_ λh5 _ m7=>kk h5 e (λc ob c1 c2 c3 c4 x=>m7.extBut _ _ c1 (jp _ _ c4 (dh.extBut _ _ c2 (bu.extBut _ _ c3 xA!)))) ⟨oe,m7.extBut _ _ zq oo,uj⟩
def a8o{TI TO:xK!}{k1 k2:Nat}{xs ys:aa_}{p:ys!}{Q:fh_}(D:kj_)
  (gz:kk!)(gI:kl!)(gO:kl_)
  (g1:km!)(g2:km_)(iq:g6_)(ja:g7!)(gx:xp_)(gy:xq!)
  (kk:∀h',IsZip h' z TI TO (rawInt k_)->IsPair h' TO x y->h'.IsTupleIter i1 l1 (k1+1)->h'.IsTupleIter i2 l2 (k2+1)->IsPair h' s.heap.objs.size x y->
   kn!->Q (some dF!) {s with heap:=h'}):
  wpAny q! A (pyNext g7_) Q E s:=by
 have gT:s.TypeIs g7_ "zip":=xA_;unfold pyNext;exact GM (OF (JF (name:=ki!) gT QH (IP QH gT xB!
  (a7u D gz gI gO g1 g2 iq ja gx gy λh' a1 a2 a3 a4 a5 a6=>GO (kk h' a1 a2 a3 a4 a5 a6)) xB_)))
def xH{TI TO:xK!}{k1 k2:Nat}{xs ys:aa_}{p:ys!}{Q:fh_}(hh:eR!)(D:kj_)
  (gz:kk!)(gI:kl!)(gO:kl_)
  (g1:km!)(g2:km_)(iq:g6_)(ja:g7!)(ge:xz_)
  (kk:∀h',kn!->Q none {s with heap:=h'}):wpAny q! A (pyNext g7_) Q E s:=by
 have gT:s.TypeIs g7_ "zip":=xA_;unfold pyNext;refine GM (OF (JF (name:=ki!) gT QH (IP QH gT xB!
  (b2u hh D gz gI gO g1 g2 iq ja ge λh' e hk he=>?_) xB_)))
 obtain⟨ob,ho,hc⟩:=he;exact GM (wpAny_isInstance (T:=xC!) (b:=true) ⟨ob,ho,hc⟩ isSubtype_stop (GO (kk _ hk)))
abbrev CA(h:Heap)(l1:xK!):Heap:=h.push {cls:=.type "tuple_iterator",data:=.fields #[.ref l1,.int 0 0]}
abbrev BZ(h:Heap)(l1 l2:xK!):Heap:=(CA h l1).push {cls:=.type "tuple_iterator",data:=.fields #[.ref l2,.int 0 0]}
abbrev BY(h:Heap)(l1 l2:xK!):Heap:=(BZ h l1 l2).push {cls:=.type "tuple",data:=.seq #[.ref b0_,.ref (CA h l1).objs.size]}
abbrev BX(h:Heap)(l1 l2:xK!):Heap:=(BY h l1 l2).push {cls:=.type "tuple",data:=.seq #[.none,.none]}
abbrev Zw(h:Heap)(l1 l2:xK!):Heap:=(BX h l1 l2).push {cls:=.type "zip",data:=.fields #[.none,.bool false,.bool false,.ref (BZ h l1 l2).objs.size,.ref (BY h l1 l2).objs.size]}
def a9g(l1 l2:xK!)(xs ys:aa_):
  Meets (Builtin.«zip.__new__» ⟨[.type "zip",.ref l1,.ref l2],[]⟩) (λ_ R s=>s.heap.IsTuple l1 xs/\s.heap.IsTuple l2 ys/\R (.ok (.ret (.ref (oU!).objs.size))) {s with heap:=Zw s.heap l1 l2}):=
 .of_wp λprog w A R s h=>by
  obtain⟨hp,g,d,tk,os⟩:=s;obtain⟨iq,ja,h⟩:=h;have UX:=sub_zip;have Y':Heap.IsTuple (Shared.heap hb!) l1 xs:=iq;have ZA:Heap.IsTuple (Shared.heap ⟨hp.push {cls:=.type "tuple_iterator",data:=.fields #[.ref l1,.int 0 0]},g,d,tk,os⟩) l2 ys:=let⟨ob,eo,r⟩:=ja;⟨ob,GQ _ eo,r⟩
  wp_walk using wpAny_pyIter_tuple Y',wpAny_pyIter_tuple ZA
  exact⟨_,rfl,h⟩
def c0x{xs ys:aa_}{Q:n_}(iq:g6_)(ja:g7!)
  (kk:∀h',IsZip h' (k_+4) (k_+2) (k_+3) .none->IsPair h' (k_+2) dF! (.ref ae_)->
   IsPair h' (k_+3) .none .none->h'.IsTupleIter s.heap.objs.size l1 0->h'.IsTupleIter ae_ l2 0->(∀c ob,s.heap.get? c=some ob->h'.get? c=some ob)->Q (.ref (k_+4)) {s with heap:=h'}):
  wpAny q! A (call oV! [.ref l1,.ref l2]) Q E s:=by
 refine callType_new F.called_zip d! (F.typeCall_zip_2 _ _) (F.newCall_zip_2 _ _) (λobj=>F.args_object_init_3 obj _ _) F.entry_zip_new (a9g l1 l2 xs ys) ⟨iq,ja,?_⟩;have z1:(xD!).objs.size=k_+1:=MF ..;have z2:(xD_).objs.size=k_+2:=by rw[MF,z1]
 have z3:(xE!).objs.size=k_+3:=by rw[MF,z2]
 have z4:(oU!).objs.size=k_+4:=by rw[MF,z3]
 have y5:(hc!).get? (oU!).objs.size=some _:=HN _ rfl;have y4:(hc!).get? (xE!).objs.size=some _:=GQ _ oT!;have y3:(hc!).get? (xD_).objs.size=some _:=GQ _ oV_;have y2:(hc!).get? (xD!).objs.size=some _:=GQ _ (GQ _ oV_);have y1:(hc!).get? k_=some _:=GQ _ (GQ _ (GQ _ oV_));show _/\_;rw[z2,z3,z4]at y5;rw[z1,z2]at y3;rw[z3]at y4;rw[z1]at y2;rw[z4];exact⟨⟨_,y5,rfl⟩,kk _ y5 y3 y4 ⟨_,y1,rfl,rfl⟩ ⟨_,y2,rfl,rfl⟩ λc ob x=>GQ _ (GQ _ (GQ _ (GQ _ (GQ _ x))))⟩
end
def CW(K:z1!)(a b:xK!):It:=
 ⟨λi H=>∃xs ys x y,Gd K H a xs/\Gd K H b ys/\xs[i]?=some x/\ys[i]?=some y,
   λi H v H'=>∃T,v=.ref T/\H T=none/\∀xs ys,Gd K H a xs->Gd K H b ys->∃x y,xs[i]?=some x/\ys[i]?=some y/\H'=upd H T (.tup [x,y]),
   λi H=>∃xs ys,Gd K H a xs/\Gd K H b ys/\(i!<=i\/X_<=i)⟩
def b2z{w:yt!}{K:z1!}{jb:bK!}{n1:Nat}{tp:Pos}{a b TI TO:xK!}(D:ZipApart z TI TO i1 i2 a b):
  Qy P w K fi_ (CW K a b) [z,TI,TO,i1,i2] z (λi h=>IsZip h z TI TO .none/\IsPair h TI (.ref i1) (.ref i2)/\(∃p q,IsPair h TO p q)/\h.IsTupleIter i1 a i/\h.IsTupleIter i2 b i) where
 mem:=by simp
 obj:=λi h st c hc=>by
  obtain⟨s1,s2,⟨p,q,s3⟩,⟨o4,s4,c4,d4⟩,⟨o5,s5,c5,d5⟩⟩:=st;simp only[GR,IJ,KL]at hc;obtain rfl|rfl|rfl|rfl|rfl:=hc
  .exact⟨_,s1,oW!⟩
  .exact⟨_,s2,oW!⟩
  .exact⟨_,s3,oW!⟩
  .exact⟨o4,s4,λv y=>by rw[d4]at y;cases y⟩
  .exact⟨o5,s5,λv y=>by rw[d5]at y;cases y⟩
 keep:=λi h h' st k=>by
  obtain⟨s1,s2,⟨p,q,s3⟩,⟨o4,s4,r4⟩,⟨o5,s5,r5⟩⟩:=st;exact⟨k z c_ _ s1,k TI c_ _ s2,⟨p,q,k TO c_ _ s3⟩,⟨o4,k i1 c_ _ s4,r4⟩,⟨o5,k i2 c_ _ s5,r5⟩⟩
 item:=by
  intro X hP hw hK hc i O s Z H E I hf st hg;subst hP hw hK;obtain⟨xs,ys,x,y,qa,qb,hx,hy⟩:=hg;obtain⟨s1,s2,⟨p,q,s3⟩,s4,s5⟩:=st;obtain⟨ia,ra,ta,za⟩:=I.tuple qa;obtain⟨ib,rb,tb,zb⟩:=I.tuple qb;obtain⟨u,hu,ru⟩:=ra.get hx;obtain⟨v,hv,rv⟩:=rb.get hy;refine a8o D s1 s2 s3 s4 s5 ta tb (x:=u) (y:=v) mm_ i5! λh' a1 a2 a3 a4 a5 a6=>?_;refine⟨_,rfl,wpAny_letOwnedTupleGo_zip (s:=ir_) a1 λJ b1 bu=>?_⟩;have q8:Heap.SameBut z h' J:=bu;have neT:∀c o,s.heap.get? c=some o->k_≠c:=λc o e=>NB cR_;have fz:=hf z c_;have fO:=hf TO c_;have f1:=hf i1 c_;have f2:=hf i2 c_;have I1:Inv X O Z H {s with heap:=J,toks:=s.toks}:=by
   have qi:∀(c:xK!),c∈fj_->H c=none:=λc hc=>by
    simp only[GR,IJ,KL]at hc;obtain rfl|rfl|rfl|rfl:=hc
    .exact fz.1
    .exact fO.1
    .exact f1.1
    .exact f2.1
   have kp:∀c o,c∉fj_->s.heap.get? c=some o->J.get? c=some o:=λc o hc e=>by
    simp only[GR,IJ,KL,NV]at hc;exact q8.extBut _ _ hc.1 (a6 c o hc.1 hc.2.1 hc.2.2.1 hc.2.2.2 e)
   refine I.step (g':=s.gens) (d':=s.drawn) (ch:=fj_) hd! oW_ oX! h5! oX_ h5_ h6! oY_ h6_ hd_ I.bare
   .simp only[GR,IJ,KL]at hc;obtain rfl|rfl|rfl|rfl:=hc
    .exact xG_
    .exact xH!
    .exact xH_
    .exact xI_
   .show"!b"
   .refine(oZ_).stay o0! o0_ λ_ _ e'=>e';have hn:=qi d hm;obtain rfl|hd:=hd
    .rw[hn]at e;cases e
    .rw[hn]at hd;cases hd
  have uk:H k_=none:=I.hok.fresh x_;have eT:J.get? k_=some {cls:=.type "tuple",data:=.seq #[u,v]}:=q8.extBut _ _ (neT z _ s1) a5;have I2:Inv X O Z (upd H s.heap.objs.size (.tup [x,y])) {s with heap:=J,toks:=s.toks}:=by
   have ne:∀c o,H c=some o->c≠k_:=λc o e=>cC e uk;have ZB:∀p∈X.pn++O,p.1≠k_:=λp hp=>II (HR (mk!).1);refine Inv.step (s:={s with heap:=J,toks:=s.toks}) (g':=s.gens) (d':=s.drawn) (t':=s.toks) (h':=J) (ch:=[k_]) I1 hd! xK_ xL! xL_ xM!
    (xM_) xN! xN_ nN_ hd_ I1.bare
   .have e:c=k_:=by simpa using hc
    subst e;exact⟨.inr I.sz,NB I.lt,λx c h=>(λz=>by obtain⟨v,o,ho,_⟩:=I.cell x c h;rw[z]at ho;exact absurd hZ! dz!),ZB⟩
   .rw[nO!];exact n
   .by_cases Y:c=k_
    .show"!x";exact⟨by show 2<=sizeLine;rw[JC];decide,[u,v],.cons ru (.cons rv .nil),⟨_,eT,rfl,_,rfl⟩⟩
    .rw[aY Y]at e;exact(xO!).stay nO_ xO_ λd xs q=>by rw[o2_];exact q
  refine⟨dR!,_,I2,rfl,⟨_,rfl,uk,λjc Y2 kz ul=>⟨x,y,?_,?_,rfl⟩⟩,⟨b1,q8.extBut _ _ D.TIz (a6 TI _ D.TIz D.TITO D.TIi1 D.TIi2 s2),⟨u,v,q8.extBut _ _ D.TOz a2⟩,bW a3 q8.extBut D.i1z,bW a4 q8.extBut D.i2z⟩,ku_⟩
  .rw[I.tuple_inj kz qa];exact hx
  .rw[I.tuple_inj ul qb];exact hy
  .have zr:=(hf c hc).1;have bn:∃o,s.heap.get? c=some o:=by
    obtain⟨o4,t4,_⟩:=s4;obtain⟨o5,t5,_⟩:=s5;simp only[GR,IJ,KL]at hc;obtain rfl|rfl|rfl|rfl|rfl:=hc
    .exact⟨_,s1⟩
    .exact⟨_,s2⟩
    .exact⟨_,s3⟩
    .exact⟨_,t4⟩
    .exact⟨_,t5⟩
   obtain⟨o,ho⟩:=bn;rw[aY (GT (neT c o ho))];exact zr
 done:=by
  intro X hP hw hK hc i O s Z H E I hf st hg;subst hP hw hK;obtain⟨xs,ys,qa,qb,ZC⟩:=hg;obtain⟨s1,s2,⟨p,q,s3⟩,s4,s5⟩:=st;obtain⟨ia,ra,ta,za⟩:=I.tuple qa;obtain⟨ib,rb,tb,zb⟩:=I.tuple qb;have l1:=ra.length;have l2:=rb.length;refine xH bq! D s1 s2 s3 s4 s5 ta tb (by
   obtain h|h:=ZC
   .left;simp;omega
   .right;simp;omega) λJ a6=>o_
  have fz:=hf z c_;have fO:=hf TO c_;have f1:=hf i1 c_;have f2:=hf i2 c_;have qi:∀(c:xK!),c∈fj_->H c=none:=λc hc=>by
   simp only[GR,IJ,KL]at hc;obtain rfl|rfl|rfl|rfl:=hc
   .exact fz.1
   .exact fO.1
   .exact f1.1
   .exact f2.1
  have kp:∀c o,c∉fj_->s.heap.get? c=some o->J.get? c=some o:=λc o hc e=>by
   simp only[GR,IJ,KL,NV]at hc;exact a6 c o hc.1 hc.2.1 hc.2.2.1 hc.2.2.2 e
  refine I.step (g':=s.gens) (d':=s.drawn) (t':=s.toks) (ch:=fj_) hd! oW_ oX! h5! oX_ h5_ h6! oY_ h6_ hd_ I.bare
  .simp only[GR,IJ,KL]at hc;obtain rfl|rfl|rfl|rfl:=hc
   .exact xG_
   .exact xH!
   .exact xH_
   .exact xI_
  .show"!b"
  .refine(oZ_).stay o0! o0_ λ_ _ e'=>e';have hn:=qi d hm;obtain rfl|hd:=hd
   .rw[hn]at e;cases e
   .rw[hn]at hd;cases hd
 self:=λA i s Q E st h=>wpAny_pyIter_zip st.1 h
section
variable{X:Cx}{own:List Nat}{e a b c o i tg:Expr}{es jb:List Expr}{pos p2 p tp:Pos}{f fa fb fc fe:Ad->Option D}{n1:Nat}
def c2i{ta:TA}(hg:Gl X "zip")(hm:xQ!)(hv:xQ_)(ha:PA X al! ta)(hs:xR!:=by rfl)(ax:xR_:=by rfl):
  PI X fi_ xS! (λZ H R=>ta Z H λvs H1=>∃x y xs ys,vs=[.ref x,.ref y]/\Gd X.K H1 x xs/\Gd X.K H1 y ys/\R (CW X.K x y) H1):=by
 intro O s Z H R I h;refine Call_ (kJ I hg hm hv (JV mr! hs ax));obtain⟨x,y,xs,ys,rfl,qx,qy,q⟩:=q1;obtain⟨u,u',rfl,ru,ay⟩:=yJ r1;cases ru;cases ay;obtain⟨ia,ra,UY,za⟩:=I1.tuple qx;obtain⟨ib,rb,UZ,zb⟩:=I1.tuple qy;have lx:x<A_:=by obtain⟨ob,eo,_⟩:=UY;exact HR eo
 have ly:y<A_:=by obtain⟨ob,eo,_⟩:=UZ;exact HR eo
 refine c0x UY UZ λh' a1 a2 a3 a4 a5 a6=>?_;refine wpAny_pyIter_zip a1 ?_;have I2:Inv X O Z H1 {s1 with heap:=h',toks:=s1.toks}:=I1.kept (t':=s1.toks) a6;have D:ZipApart (A_+4) (A_+2) (A_+3) s1.heap.objs.size (A_+1) x y:=by
  constructor<;>(intro z;have z':@Eq Nat _ _:=z;have l1:@LT.lt Nat _ x _:=lx;have l2:@LT.lt Nat _ y _:=ly;omega)
 refine⟨_,_,_,CW X.K x y,H1,rfl,I2,b2z D,⟨a1,a2,⟨_,_,a3⟩,a4,a5⟩,ku_,q⟩;have oq:A_<=c:=by
  simp only[GR,IJ,KL]at hc;obtain rfl|rfl|rfl|rfl|rfl:=hc<;>omega
 exact I1.fpOk oq (I1.hok.fresh oq)
def Kg:List D->List D->List D
 |x::xs,y::ys=>.tup [x,y]::Kg xs ys
 |_,_=>[]
def Zj(fa fb:e_):Ad->Option aL!:=λρ=>(e8!).bind λx=>(jQ_).bind λy=>match x,y with|.tup xs,.tup ys=>some kv_|_,_=>none
def a4g:∀(xs ys:a_) (n:Nat) (d:D),kv_[n]?=some d->∃x y,xs[n]?=some x/\ys[n]?=some y/\d=.tup [x,y]
 |[],_,n,d,h=>by simp[Kg]at h
 |_::_,[],n,d,h=>by simp[Kg]at h
 |x::xs,y::ys,0,d,h=>by
  simp[Kg]at h;exact⟨x,y,rfl,rfl,h.symm⟩
 |x::xs,y::ys,n+1,d,h=>by
  obtain⟨u,v,B,J,h3⟩:=a4g xs ys n d (by simpa[Kg]using h);exact⟨u,v,hN_,by simpa using J,h3⟩
def a4f:∀(xs ys:a_),i!<=(kv_).length\/X_<=(kv_).length
 |[],ys=>.inl cG!
 |_::_,[]=>.inr cG!
 |x::xs,y::ys=>by
  obtain h|h:=a4f xs ys
  .left;simp[Kg];exact h
  .right;simp[Kg];exact h
def c3n{K:z1!}{G1:Hp}{es:a_}(qa:Gd K G1 x vs)(qb:Gd K G1 y ws)(ra:Am K G1 ds vs)(rb:Am K G1 es ws):Xw K (CW K x y) (Kg ds es) G1:=by
 intro n G' H' s1 s2;have kz:Gd K H' x vs:=bS s2 (bS s1 qa);have ul:Gd K H' y ws:=bS s2 (bS s1 qb);refine⟨dm!,λhn=>⟨vs,ws,kz,ul,?_⟩⟩
 .obtain⟨u,v,B,J,rfl⟩:=a4g ds es n d hd;obtain⟨v1,g1,r1⟩:=fQ ra B;obtain⟨v2,g2,r2⟩:=fQ rb J;refine⟨⟨vs,ws,v1,v2,kz,ul,g1,g2⟩,λx' gg hy=>?_⟩;obtain⟨T,rfl,hT,hh⟩:=hy;obtain⟨x1,y1,e1,e2,rfl⟩:=hh vs ws kz ul;rw[g1]at e1;rw[g2]at e2;cases e1;cases e2;exact⟨_,Cm.laid s2 hT,fL (s2.free hT) (Am.cons (r1.mono s1) (Am.cons (r2.mono s1) Am.nil))⟩
 .rw[hn,<-aJ ra,<-aJ rb];exact a4f ds es
def c8s(hg:Gl X "zip")(hm:xQ!)(hv:xQ_)(ha:Y_)(Y:cA!)(hs:xR!:=by rfl)
  (bu:starEach [b] X.env=iv!::starEach [] X.env:=by rfl)(ax:xR_:=by rfl):DI X own fi_ xS! (Zj fa fb):=
 a7f (c2i hg hm hv (dD ha.ok (dD Y.ok fR bu) hs) hs ax) λZ G H R ρ ds er e k=>by
  obtain⟨x,e1,e⟩:=GN.mp e;obtain⟨y,e2,e⟩:=GN.mp e;cases x with
  |tup xs=>
   cases y with
   |tup ys=>
    cases e;refine xU!;obtain⟨p,vs,rfl,q,rr⟩:=bO gP!;obtain⟨p',ws,rfl,q',b7⟩:=bO r2;exact⟨p,p',vs,ws,rfl,bS s2.sub q,bS s2.sub q',k _ G2 H2 dj_ (c3n q q' rr b7)⟩
   |_=>cases e
  |_=>cases e
end
def Ef:D->D->Option D:=Dw Ti λi j=>.int (i*j)
def qU{K:z1!}:Ie K mD! Ef:=c7g
def Bz:D->D->Option D:=Dw wg! λi j=>.int (i%j)
def eX{K:z1!}:Ie K mF_ Bz:=c7h
def Cg:D->D->Option D:=Dw wh! λi j=>.int (i / j)
def mO{K:z1!}:Ie K mE! Cg:=c2y
def Fw:D->D->Option D:=Dw wh_ λi j=>.int mG!
def c7c{K:z1!}:Ie K mG_ Fw:=c7f
def Je:D->D->Option D:=Ce λi j=>.bl mJ_
def b1r{K:z1!}:Ie K mI! Je:=d0s
def Jf:D->D->Option D:=Ce λi j=>.bl mM!
def b1s{K:z1!}:Ie K mK_ Jf:=d0t
def Nk:D->D->Option D:=Ce λi j=>.bl mL!
def d0q{K:z1!}:Ie K mL_ Nk:=d0u
section
variable{X:Cx}{own:List Nat}{pos p2:Pos}
def lG:Gi X mI_ xV!:=d0m.or b3v
def Jj:D->D->Option D
 |.int i,.int j=>some (.bl mJ!)
 |.str x,.str y=>some (.bl (Ra x y))
 |_,_=>none
def lH{K:z1!}:Ie K xV! Jj:=by
 show"!0";unfold Jj at e;show"!7"
 .show"!`";exact .inl xV_
 .cases bY rx;cases bY ry;cases e;exact .inr xV_
 .cases e
def Lb:D->D->Option D
 |.int i,.int j=>some (.bl (!(i==j)))
 |.str x,.str y=>some (.bl (!(x==y)))
 |_,_=>none
def yW{K:z1!}:Ie K FD Lb:=by
 show"!0";unfold Lb at e;show"!7"
 .show"!`";refine o_;rw[b2l];show"!o"
 .cases bY rx;cases bY ry;cases e;refine o_;rw[b2k];show"!o"
 .cases e
def gS{x:Str}{i:Int}(hm:∃t,X.mg x=some dx!)(hg:M_)(hd:B_:=by decide):DE X own cU! (fC bp_):=by obtain⟨t,ht⟩:=hm;exact c4m hg ht hd
end
def cI{X:Cx}{scope sc:Scope}(h:X.env.scope=sc)(hd:∀y∈ca!,y.2=.free->(sc.names.lookup y.1=some .cell\/sc.names.lookup y.1=some .free)):
  ∀y∈ca!,y.2=.free->vD!:=λy hy hf=>by
 unfold Env.kindOf;rw[h];exact hd y hy hf
section
variable{X:Cx}{own:List Nat}{a b c:Expr}{pos p2:Pos}{fa fb fc:Ad->Option D}
def b9z{op eh:CmpOp}{r r':R2}{g g':a4_}(ho:b4_)(hg:dX_)(dz:iE!)(uh:Ie X.K r' g')(ha:Y_)(Y:cA!)(hc:DE X own c fc)
  (hm:iE_:=by with_unfolding_all rfl):DT X own iF! (fT w0!):=
 wN (b6r ho dz ha.ok Y.ok hc.ok hm) λZ G H Q ρ d er e k=>by
  have e:=kP e;obtain⟨x,e1,e⟩:=GN.mp e;obtain⟨y,e2,e⟩:=GN.mp e;obtain⟨z,e3,e⟩:=GN.mp e;refine w0_;have om:=s1.trans gP_;cases z with
  |bl bb=>
   cases cV r3;refine w1!;cases bb with
   |true=>
    obtain⟨u,e4,e⟩:=GN.mp e;refine lA ⟨G3,ρ,u,er.grow om,e4,λq G4 H4 s4 r4=>uh s4.sub w1_ r4 e λv G5 H5 s5 r5=>?_⟩;cases cV r5;exact⟨d,rfl,k G5 H5 w2!⟩
   |false=>
    cases e;exact lB ⟨false,rfl,k G3 H3 om⟩
  |_=>cases e
def b4y{x:Str}{br:aN_}(hd:Ts X x br)(hg:M_)(ha:Y_)(hm:behindInMarks .NotIn dl!=false:=by rfl)(av:B_:=by decide):DT X own (.Compare a [.NotIn] [cC!] pos) (fT (Xp br true fa)):=by
 show"#C";refine wN (t:=λZ H Q=>tD X.K own fa Z H λv H1=>∃y,v=.str y/\Q (!(My kvs d9_).isSome) H1) w4! λZ G H Q ρ d er e k=>?_
 .refine QD (dA w4_ λv s1 ⟨y,H1,I1,r1,z,hz,q1⟩=>gZ I1 hg kg ?_ av) hm;subst hz;refine wpAny_notIn_of (knd:=w5!) (k:=oO_) w5_ UM (zl _ I1.kIn).mapOf ?_;rw[<-(zm.val oO!).isSome_eq];exact IS ⟨H1,I1.tok _,q1⟩
 .have e:=kP e;obtain⟨x,e1,e⟩:=GN.mp e;cases x with
  |str y=>
   cases e;refine fd_;cases bY r1;refine⟨y,rfl,?_⟩;have Y:(My kvs d9_).isSome=(oN_).isSome:=by
    cases ht:br.lookup y with
    |none=>rw[(hn y).mpr ht];rfl
    |some d=>obtain⟨v,hv,_⟩:=hs y d ht;rw[hv];rfl
   rw[Y];exact k G1 H1 s1
  |_=>cases e
end
def dO:bootBuiltins "len"=some mQ!:=by decide+kernel
def c9i:bootBuiltins "abs"=some sx!:=by decide+kernel
def c9h:bootBuiltins "ord"=some sy_:=by decide+kernel
def wY:bootBuiltins "all"=some wp_:=by decide+kernel
def bP:bootBuiltins "isinstance"=some jY_:=by decide+kernel
def c0y:bootBuiltins "int"=some bD_:=by decide+kernel
def b2s:bootBuiltins "bool"=some bE!:=by decide+kernel
def b0f:bootBuiltins "str"=some bE_:=by decide+kernel
def mF:bootBuiltins "tuple"=some a6!:=by decide+kernel
def b2r:bootBuiltins "list"=some bj!:=by decide+kernel
def c9g:bootBuiltins "zip"=some oV!:=by decide+kernel
def Gc(K:z1!)(mg:y_)(x:Str)(st:Stmt)(ps:n!):Prop:=∃ae fd,Wr K x x st ae fd/\Eu K fd ps []/\mg x=some bi_
def Bw(N:n!)(n:Nat)(q:aD!)(ds:a_):Option D:=if f_=n then(match q g2! with|some (.rt d)=>some d|some (.nx _)=>some .non|none=>none)else none
def dW{K:z1!}{mg:y_}{st:Stmt}{ps:n!}{k:Nat}{σ:i_}{q:aD!}(h:o5!)(S:dc_)
  (Y:∀{ae:xK!} {af:ys!} {A:xX!} {outer:V_} {s:z2!} {H:Hp} {E:XK},Ak k kx!->Ws (o5_).nox [] σ bz! q):
  Ok P w K mg base Q_ x ps (Bw N ps.length q):=by
 obtain⟨ae,fd,F,hb,m⟩:=h;refine⟨ae,fd,c8u F S (λaf A outer s H E hr=>Y hr) (λds d hl e=>?_),hb,m,F.kp⟩;unfold Bw at e;rw[HB hl]at e;show"!7"
 .cases e;left;assumption
 .cases e;right;exact⟨_,by assumption,rfl⟩
 .cases e
def BG:Const->Option D
 |.int i=>some bp_
 |.str i=>some jH_
 |.bool i=>some (.bl i)
 |.none=>some .non
 |_=>none
mutual
noncomputable def Ua:Nat->Expr->Option D
 |0,_=>none
 |n+1,e=>match e with
  |.Constant c _ _=>BG c
  |.Tuple es _ _=>(o6_).bind λds=>if f_<=1000 then some dg! else none
  |.List es _=>(o6_).bind λds=>if f_<=1000 then some cy! else none
  |_=>none
noncomputable def Tz:Nat->List Expr->Option aL!
 |0,_=>none
 |n+1,[]=>some []
 |n+1,e::es=>(Ua n e).bind λd=>(o6_).bind λds=>some dV_
end
section
variable{X:Cx}{own:List Nat}
def b8u{n:Nat}(h:Ua n e=some d):starEach aG_ X.env=dL!::starEach es X.env:=by
 cases n with
 |zero=>unfold Ua at h;cases h
 |succ n=>
  cases e<;>first|rfl|(simp[Ua]at h;done)
mutual
theorem fI:∀{n:Nat} {e:Expr} {d:D},Ua n e=some d->DE X own e (fC d)
 |0,e,d,h=>by unfold Ua at h;cases h
 |n+1,e,d,h=>by
  unfold Ua at h;split at h
  .unfold BG at h;split at h
   .cases h;exact aB
   .cases h;exact aT
   .cases h;exact fZ
   .cases h;exact cZ
   .cases h
  .obtain⟨ds,e1,e2⟩:=GN.mp h;split at e2
   .rename_i hl;cases e2;refine eL (cK (a9z e1)).ok λZ G H Q ρ d er e k=>?_;show"#D"
   .cases e2
  .obtain⟨ds,e1,e2⟩:=GN.mp h;split at e2
   .rename_i hl;cases e2;refine eL (mD (a9z e1)).ok λZ G H Q ρ d er e k=>?_;show"#D"
   .cases e2
  .cases h
theorem a9z:∀{n:Nat} {es:bK!} {ds:a_},Tz n es=some ds->DA X own es (λ_=>some ds)
 |0,e,d,h=>by unfold Tz at h;cases h
 |n+1,[],d,h=>by
  unfold Tz at h;cases h;exact aK
 |n+1,e::es,d,h=>by
  unfold Tz at h;obtain⟨d1,e1,h⟩:=GN.mp h;obtain⟨ds,e2,h⟩:=GN.mp h;cases h;exact c0l (aC (fI e1) (a9z e2) (b8u e1)).ok λZ G H Q ρ d er e k=>⟨G,ρ,_,er,e,k⟩
end
end
section
variable{P:z3!}{w:yt!}{K:z1!}{mg:Str->Option Value}{h:Heap}
def bC{st:Stmt}{ps:n!}{od an:aJ_}{dr:bP!}{kV:ys!}(X:ec!)(G:fl!)
  (a:xZ!)(l:x0_)
  (c:x1!)(k:gE!)
  (b:x1_):Gc K mg x st ps:=
 ⟨f,_,kx_,o7!,o7_⟩
def Zs(K:z1!)(mg:y_)(x:Str)(st:Stmt)(ps:n!):Prop:=∃ae fd,Wr K x x st ae fd/\(∀us:List Value,as!=T!->bindArgs fd c5!=pure c3_)/\mg x=some bi_
def c4i{st:Stmt}{ps:n!}{od an:aJ_}{dr:bP!}{kV:ys!}(X:ec!)(G:fl!)
  (a:xZ!)(l:x0_)
  (c:x1!)(k:gE!)
  (b:x1_):Zs K mg x st ps:=
 ⟨f,_,kx_,b _ _ _ _ _ _,o7_⟩
def pR{i:Int}(X:ec!)(G:fl!)(a:W.nsIn K mainGlobals x=some (some (.int i tk))):∃tk,mg x=some (.int i tk):=⟨tk,o7_⟩
def eB(X:ec!)(G:fl!)(e:W.nsIn K mainGlobals x=some ky!):mg x=some S_:=W.mg_of X G e
def dJ(X:ec!)(G:fl!)(e:W.nsIn K mainGlobals x=some none):mg x=none:=W.mg_none_of X G e
def zO{K:z1!}{H:Hp}:∀(ns:z!),Am K H o8! b9!
 |[]=>Am.nil
 |n::r=>Am.cons Ar.int (zO r)
abbrev To:=Str×Tok×Addr
def Zc(w:yt!)(r:To):DictEntry:=⟨PyData.keyHash w.params r.1,.str r.1 r.2.1,.ref r.2.2⟩
def Ue(K:z1!):List To->List cf!->Prop
 |[],[]=>True
 |r::rs,t::ts=>r.1=t.1/\(∀H,Ar K H t.2 (V.ref r.2.2))/\Ue K rs ts
 |_,_=>False
abbrev Uq(rows:fl_):List (L2.Key×V):=rows.map λr=>(Sum.inr r.1,V.ref r.2.2)
abbrev Sx(rows:fl_):List w3_:=rows.map λr=>(Sum.inr r.1,Value.ref r.2.2)
def uS{P:z3!}:∀(rows:fl_),Pairs bn! x2_ o8_
 |[]=>.nil
 |r::rs=>.cons (lN P w r.1 r.2.1) rfl (uS rs)
def qM:∀{rows:fl_} {br:aN_},Ue K rows br->(My o9_ d9_=none↔br.lookup y=none)/\∀d,br.lookup y=some d->∃v,My o9_ d9_=some v/\∀H,Ar K H d v
 |[],[],_=>⟨⟨gj_,gj_⟩,λd e=>by cases e⟩
 |[],t::ts,h=>h.elim
 |r::rs,[],h=>h.elim
 |r::rs,(x,d0)::ts,h=>by
  obtain⟨B,J,h3⟩:=h;have ih:=qM (y:=y) h3;have k8:r.1=x:=B;unfold My at ih ⊢;simp only[GY,KZ,IQ];by_cases e:y=x
  .subst e;have:decide x3!=true:=by simp[k8]
   simp only[this,KJ];refine⟨⟨x4!,x4!⟩,λd z=>?_⟩;cases z;exact⟨_,rfl,J⟩
  .have e1:decide x3!=false:=by
    rw[k8];exact HF λz=>e (x5!).symm
   have e2:(y==x)=false:=by simp[e]
   simp only[e1,e2];exact ih
def b2a:∀(rows:fl_),KV o9_ o8_
 |[]=>.nil
 |r::rs=>.cons bL_ (b2a rs)
def b9p{X:Cx}{x:Str}{ad:xK!}{rows:fl_}{br:aN_}{ep:Nat}(hw:X.w=w)(hK:X.K=K)(kg:X.mg=mg)(hm:mg x=some kh!)(hs:oN!=false)(hl:K.lookup ad=some {cls:=.type "dict",data:=.dict (x2_).toArray ep})
  (nd:cH!)(ht:Ue K rows br):Ts X x br:=by
 subst hw hK kg;refine⟨ad,Uq rows,Sx rows,hm,hs,λh hK=>⟨_,_,_,hK _ _ hl,x6!,rfl,?_,?_,?_⟩,b2a rows,λy=>(qM ht).1,λy d=>(qM ht).2 d⟩
 .intro e he;have k9:e∈rows.map (Zc X.w):=by simpa using he
  obtain⟨r,hr,rfl⟩:=HK.mp k9;exact⟨Sum.inr r.1,lN _ _ r.1 r.2.1,rfl⟩
 .simpa using uS (w:=X.w) (P:=X.prog) rows
 .have e:(o8_).map b_=(ky_).map (Sum.inr:Str->L2.Key):=by simp[Sx]
  rw[e];exact List.Pairwise.map _ (λa b ml z=>ml x5!) nd
def a4y{H:Hp}:∀(fs:J!),Am K H (fs.map D.fn) x7!
 |[]=>Am.nil
 |n::r=>Am.cons (by unfold Ar;rfl) (a4y r)
def yH:∀(fs:J!),Ba x7! x7_
 |[]=>.nil
 |n::r=>.cons rfl (yH r)
def gK{fs:J!}{od:aJ_}{n:Nat}{sl:bP!}(l:K.lookup a=some ⟨cH_,od,.seq (x7_).toArray n,sl⟩)(hz:bn_<=1000)(H:Hp):Ar K H (.tup (fs.map D.fn)) gL_:=
 Ar.tup (.inr ⟨_,_,n,l,rfl,rfl,by simpa using gN hz,by simpa using yH fs⟩) (a4y fs)
end
abbrev MK:=Option (Sum L2.Key (List L2.Key))
abbrev BE:Int:=0xFCA86420
section
variable{P:z3!}{w:yt!}{A:xX!}{E:Value->Shared->Prop}{s:z2!}
variable (P w)in
def Jp(h:Heap):MK->Value->Prop
 |none,v=>v=.none
 |some (.inl k),v=>Qn k v=true
 |some (.inr ks),v=>∃a,v=.ref a/\IsTupleKey bn! h ks a
variable (P w)in
nonrec def mkHash:MK->Int
 |none=>BE
 |some (.inl k)=>BH w k
 |some (.inr ks)=>tupleKeyHash bn! ks
def a5x(hx:Jp P w h x v)(hy:Jp P w h y v):x=y:=by
 obtain _|x|x:=x<;>obtain _|y|y:=y
 .rfl
 .cases x8!;obtain⟨i,t,_,e⟩|⟨i,t,_,e⟩:=bH hy<;>exact nomatch e
 .cases x8!;obtain⟨a,e,_⟩:=hy;exact nomatch e
 .cases hf_;obtain⟨i,t,_,e⟩|⟨i,t,_,e⟩:=bH hx<;>exact nomatch e
 .rw[(bn!).inj v x y hx hy]
 .obtain⟨a,rfl,_⟩:=hy;obtain⟨i,t,_,e⟩|⟨i,t,_,e⟩:=bH hx<;>exact nomatch e
 .cases hf_;obtain⟨a,e,_⟩:=hx;exact nomatch e
 .obtain⟨a,rfl,_⟩:=hx;obtain⟨i,t,_,e⟩|⟨i,t,_,e⟩:=bH hy<;>exact nomatch e
 .obtain⟨a,rfl,hx⟩:=hx;obtain⟨b,e,hy⟩:=hy;cases e;rw[hx.inj hy]
def jW{h:Heap}{ks:pb!}(x:IsTupleKey bn! h ks a):∃its,h.IsTuple a its:=by obtain⟨o,its,n,B,J,h3,_⟩:=x;exact⟨its,o,B,J,n,h3⟩
def b8l{Q:dq!}(hu:aq!)(hx:pb_)(hy:Jp P w s.heap y v)(h:Q (decide (x=y)) s):wpAny J_ A (eqBool u v) Q E s:=by
 obtain _|x|x:=x<;>obtain _|y|y:=y
 .cases hg!;cases hf_;rw[fm_]at h;exact SeqAt.EqAt.same _ _ _ _ _ h
 .cases hg!;rw[fn!]at h;obtain⟨i,t,rfl,rfl⟩|⟨i,t,rfl,rfl⟩:=bH hy
  .exact SeqAt.EqAt.none_int i t _ _ _ _ h
  .exact SeqAt.EqAt.none_str i t _ _ _ _ h
 .cases hg!;rw[fn!]at h;obtain⟨a,rfl,q⟩:=hy;obtain⟨its,q⟩:=jW q;exact SeqAt.EqAt.none_tuple q hu _ _ _ _ h
 .cases hf_;rw[fn!]at h;obtain⟨i,t,rfl,rfl⟩|⟨i,t,rfl,rfl⟩:=bH hx
  .exact SeqAt.EqAt.int_none i t _ _ _ _ h
  .exact SeqAt.EqAt.str_none i t _ _ _ _ h
 .refine(bn!).eqBool hx hy ?_;by_cases e:x=y
  .subst e;rw[fm_]at h ⊢;exact h
  .rw[HF cP_]at h;rw[HF e];exact h
 .rw[fn!]at h;obtain⟨a,rfl,q⟩:=hy;obtain⟨its,q⟩:=jW q;obtain⟨i,t,rfl,rfl⟩|⟨i,t,rfl,rfl⟩:=bH hx
  .exact SeqAt.EqAt.int_tuple i t q hu _ _ _ _ h
  .exact SeqAt.EqAt.str_tuple i t q hu _ _ _ _ h
 .cases hf_;rw[fn!]at h;show"#*";obtain⟨its,q⟩:=jW q;exact SeqAt.EqAt.tuple_none q hu _ _ _ _ h
 .rw[fn!]at h;obtain⟨a,rfl,q⟩:=hx;obtain⟨its,q⟩:=jW q;obtain⟨i,t,rfl,rfl⟩|⟨i,t,rfl,rfl⟩:=bH hy
  .exact SeqAt.EqAt.tuple_int i t q hu _ _ _ _ h
  .exact SeqAt.EqAt.tuple_str i t q hu _ _ _ _ h
 .show"#*";obtain⟨b,rfl,q2⟩:=hy;refine wpAny_eqBool_tuple hu q q2 ?_;by_cases e:x=y
  .subst e;rw[fm_]at h ⊢;exact h
  .rw[HF cP_]at h;rw[HF e];exact h
def a5w{Q:dq!}(hx:pb_)(h:Q true s):wpAny J_ A (eqIsQuiet 8 u) Q E s:=by
 obtain _|x|x:=x
 .cases hg!;rw[eqIsQuiet_byValue _ rfl];exact GO h
 .rw[eqIsQuiet_byValue _ ((bn!).byValue x u hx)];exact GO h
 .show"#*";exact wpAny_eqIsQuiet_tuple q h
def tS{Q:Int->Shared->Prop}(hu:aq!)(hx:pb_)(h:∀tk,Q (mkHash P w x) {s with toks:=tk}):wpAny J_ A (pyHash u) Q E s:=by
 obtain _|x|x:=x
 .cases hg!;unfold pyHash;have hv:[co_].any Value.onHeap=false:=rfl;refine GM ?_;rw[cRoomFor,GS (by rw[hv];exact HM)];refine GO ?_;have hT:s.TypeIs .none "NoneType":=rfl;refine GM x8_;rw[GS (show¬(some (Value.builtin "NoneType.__hash__")==some Value.none)=true by rw[beq_builtin_none];exact HM)];refine GM x8_;show wpAny _ _ (callSpecialIfBoundUnlessNone? Value.none (Str.ofString "__hash__") _>>=_) _ _ _;refine GM (wpAny_callSpecialIfBoundUnlessNone?_slot hT MQ (IP MQ hT PySem.F.entry_NoneType_hash ?_ (PySem.F.args_NoneType_hash_1 _)));refine wpAny_ret_mkInt ?_;exact GO (h _)
 .exact(bn!).pyHash hx (h _)
 .show"#*";exact wpAny_pyHash_tuple hu q (h _)
end
def Lz(ks:a7_)(k:MK):Option Nat:=ks.findIdx? λx=>decide (x=k)
def Gx(ks:a7_)(k:MK)(i:Nat):Bool:=decide (ks[i]?=some k)
def pL{ks:a7_}{j:Nat}(h:x9!):ks[j]?=some k/\∀i,i<j->ks[i]?≠some k:=by obtain⟨B,J,h3⟩:=List.findIdx?_eq_some_iff_getElem.mp h;refine⟨by rw[HJ B];exact congrArg some (JZ J),λi hi e=>?_⟩;have:=h3 i hi;obtain⟨q1,q2⟩:=HC.mp e;rw[q2]at this;simp at this
def a6l{ks:a7_}(h:Lz ks k=none)(i:Nat):ks[i]?≠some k:=λe=>by
 have:=List.findIdx?_eq_none_iff.mp h k (MU e);simp at this
def a9v(ks:a7_)(k:MK):(List.range kz_).find? dq_=Lz ks k:=by
 cases h:Lz ks k with
 |none=>
  rw[List.find?_eq_none];intro i hi z;exact a6l h i (JZ z)
 |some j=>
  obtain⟨B,J⟩:=pL h;rw[List.find?_range_eq_some];refine⟨by unfold Gx;exact HY B,NP.mpr (j7_).1,fn_⟩;unfold Gx;rw[HF (J i hi)];rfl
section
variable{P:z3!}{w:yt!}{A:xX!}{E:Value->Shared->Prop}{s:z2!}
variable (P w)in
structure Nv(h:Heap)(es:by_)(ks:a7_):Prop where
 len:es.size=kz_
 at_:∀(i:Nat) (e:DictEntry) (k:MK),es[i]?=some e->ks[i]?=some k->Jp P w h k e.key/\e.hash=mkHash P w k
 nd:hh!
def Nv.get{es:by_}{ks:a7_}(x:kA!){i:Nat}{e:DictEntry}(q:es[i]?=some e):∃k,ks[i]?=some k/\Jp P w h k e.key/\e.hash=mkHash P w k:=by
 have hl:i<kz_:=by rw[<-x.len];exact(JL.mp q).1
 exact⟨ks[i],HJ hl,x.at_ i e _ q (HJ hl)⟩
def Nv.one{es:by_}{ks:a7_}(x:kA!){i j:Nat}(B:Gx ks k i=true)(J:Gx ks k j=true):i=j:=by have e1:=JZ B;have e2:=JZ J;exact(List.getElem?_inj (HC.mp e1).1 x.nd).mp q8!
abbrev plc(es:by_)(h:Int):List Nat:=placesWithHash es.size (λi=>es[i]?.map (·.hash)) h
def a7d{es:by_}{ks:a7_}(x:kA!)(k:MK):(kA_).find? dq_=Lz ks k:=by
 unfold plc placesWithHash;rw[List.find?_filter,<-a9v,x.len];congr 1;funext i;cases hp:Gx ks k i with
 |false=>simp
 |true=>
  have e1:=JZ hp;have hl:i<es.size:=by rw[x.len];exact(HC.mp e1).1
  obtain⟨k',q1,q2,q3⟩:=x.get (IK hl);rw[e1]at q1;cases q1;simp[IK hl,q3]
def b6y{es:by_}{h:Int}{i:Nat}(hi:i∈plc es h):i<es.size:=by have:=(MB.mp hi).1;simpa using this
def c6m{es:by_}{h:Int}:(plc es h).Nodup:=List.nodup_range.sublist OA
def a7w{o:Obj}{es:by_}{ep:Nat}{ks:a7_}{Q:ya!}(hu:aq!)(x:ya_)(hk:ec_)
  (ho:yb!)(hd:yc!)(h:Q hh_ s):wpAny J_ A yc_ Q E s:=by
 show"!k";generalize plc es dr!=L at hf hl ⊢;rw[<-hf]at h;unfold dictWalkPlain;refine GM (PV _ (λrest b s'=>s'=s/\b=fo!/\rest.find? dq_=L.find? dq_/\∀i∈rest,i<es.size) _ ?_ ?_ _ _ ⟨rfl,rfl,rfl,hl⟩)
 .rintro i rest b s' ⟨rfl,rfl,B,J⟩;have ao:=J i GX;have he:es[i]?=some es[i]:=IK ao;obtain⟨k',q1,q2,q3⟩:=x.get he;have no:k'≠k->rest.find? dq_=L.find? dq_:=λhne=>by
   rw[<-B,KZ];have:Gx ks k i=false:=by unfold Gx;rw[q1];exact HF yd!
   rw[this]
  show"#'";rw[he];dsimp only;split
  .refine GM pc!;rw[an!];by_cases m8:k'=k
   .subst m8;rw[fm_];have hi:Gx ks k' i=true:=by unfold Gx;exact HY q1
    have:L.find? (Gx ks k')=some i:=by rw[<-B,KZ,hi]
    rw[this]at h;exact GM (KN kB!)
   .rw[HF m8];exact GM (KN (GO ⟨rfl,rfl,no m8,rs⟩))
  .rename_i hh;exact GO ⟨rfl,rfl,no yd_,rs⟩
 .rintro b s' ⟨rfl,rfl,B,_⟩;rw[<-B]at h;exact GO h
def a4i{Q:dq!}(hk:ec_)(hl:∀v∈L,∃k',Jp P w s.heap k' v)(h:Q false s):wpAny J_ A (tableMayTell u L) Q E s:=by
 unfold tableMayTell;split
 .exact GO h
 .refine GM (a5w hk ?_);rw[an!];refine GM (PV _ (λrest r s'=>s'=s/\r=fo!/\∀v∈rest,v∈L) _ ?_ ?_ _ _ ⟨rfl,rfl,λ_ z=>z⟩)
  .rintro v rest r s' ⟨rfl,rfl,hr⟩;obtain⟨k',q⟩:=hl v (hr v GX);refine GM (a5w q ?_);rw[an!];exact GO ⟨rfl,rfl,λy hy=>hr y cw_⟩
  .rintro r s' ⟨rfl,rfl,_⟩;exact GO h
def c1h{ks:a7_}{i:Nat}(q1:ye_)(e:k'=k):Gx ks k i=true:=by unfold Gx;rw[<-e];exact HY q1
def b2x{ks:a7_}{i:Nat}{rest:i_}{a9:pc_}(hc:(a9=none/\(i::rest).find? dq_=Lz ks k)\/∃j,a9=some j/\Lz ks k=some j/\Gx ks k j=true/\j∉i::rest)(q1:ye_)(hne:¬k'=k):
  yf!\/∃j,a9=some j/\Lz ks k=some j/\Gx ks k j=true/\j∉rest:=by
 obtain⟨e,B⟩|⟨j,e,B,h4,h5⟩:=hc
 .refine .inl eW_;rw[<-B,KZ];have:Gx ks k i=false:=by unfold Gx;rw[q1];exact HF yd!
  rw[this]
 .exact .inr ⟨j,e,B,h4,λz=>h5 (GP _ z)⟩
def rJ{v:ys!}(q:Jp P w h k v):v.isStr z=decide (k=some hi!):=by
 by_cases e:k=some hi!
 .subst e;rw[fm_];obtain⟨i,t,e,_⟩|⟨i,t,e,rfl⟩:=bH q
  .cases e
  .cases e;simp[Value.isStr]
 .rw[HF e];cases v<;>first|rfl|skip
  rename_i y t;simp only[Value.isStr,KR,ne_eq];rintro rfl;exact e (a5x q (rG y t))
def b9q{es:by_}{ks:a7_}(x:kA!)(z:Str):(es.findIdx? λe=>e.key.isStr z)=Lz ks (some hi!):=by
 cases hk:Lz ks (some hi!)with
 |none=>
  rw[Array.findIdx?_eq_none_iff];intro e he;obtain⟨i,hi⟩:=Array.mem_iff_getElem?.mp he;obtain⟨k',q1,q2,_⟩:=x.get hi;rw[rJ q2];exact HF λ(e:k'=_)=>a6l hk i yf_
 |some j=>
  obtain⟨B,J⟩:=pL hk;have hj:j<es.size:=by rw[x.len];exact(j7_).1
  rw[Array.findIdx?_eq_some_iff_getElem];refine⟨hj,?_,fn_⟩
  .obtain⟨k',q1,q2,_⟩:=x.get (IK hj);rw[rJ q2];rw[B]at q1;cases q1;exact HY rfl
  .obtain⟨k',q1,q2,_⟩:=x.get (IK (Nat.lt_trans hi hj));rw[rJ q2,HF (λ(e:k'=_)=>J i hi yf_)];simp
def d0b{g:Prop}(h:∃T:Prop,(T->g)/\T):g:=let⟨_,f,k⟩:=h;f k
def pS{o:Obj}{es:by_}{ep:Nat}{ks:a7_}{Q:ya!}(hu:aq!)(x:ya_)(hk:ec_)
  (ho:yb!)(hd:yc!)(h:Q hh_ s):wpAny J_ A (dictFind d u dr!) Q E s:=by
 have hst:∀v∈(kA_).filterMap (λi=>es[i]?.map kB_),∃k',Jp P w s.heap k' v:=λv hv=>by
  obtain⟨i,_,e⟩:=LW.mp hv;obtain⟨e',e1,rfl⟩:=GU.mp e;obtain⟨k',_,q,_⟩:=x.get e1;exact⟨k',q⟩
 have ZD:¬(es.any λe=>e.key==u&&e.hash != mkHash P w k)=true:=λz=>by
  obtain⟨i,hi,z⟩:=Array.any_eq_true.mp z;rw[HZ,MH,bne_iff_ne]at z;obtain⟨k',_,q,q3⟩:=x.get (IK hi);rw[z.1]at q;exact z.2 (by rw[q3,a5x q hk])
 show"!k";have q9:(kA_).Nodup:=c6m;have ax:wpAny J_ A yc_ Q E s:=a7w hu x hk ho hd h;unfold dictFind;refine IT (GM (KG ho hd ?_));refine d0b ?_;apply Exists.intro;apply And.intro
 .intro tl;have zc:(∃a,u=.ref a)\/(∃z t,u=.str z t/\k=some hi!)\/(u=.none\/∃i t,u=.int i t):=by
   clear tl;obtain _|k|k:=k
   .exact .inr (.inr lV!)
   .obtain⟨i,t,rfl,rfl⟩|⟨i,t,rfl,rfl⟩:=bH hk
    .exact .inr (.inr (.inr ⟨i,t,rfl⟩))
    .exact .inr (.inl ⟨i,t,rfl,rfl⟩)
   .obtain⟨a,rfl,_⟩:=hk;exact .inl ⟨a,rfl⟩
  obtain⟨a,ea⟩|⟨z,t,ea,U'⟩|ea|⟨i,t,ea⟩:=zc
  all_goals rw[ea]
  all_goals dsimp only
  rotate_left
  refine wpAny_ite_split (λgu=>?_) λ_=>?_
  .clear tl;unfold foundByValue;rw[b9q x z,<-U'];cases hj:Lz ks k with
   |none=>rw[hj]at h;exact GO h
   |some j=>
    obtain⟨B,_⟩:=pL hj;have ao:j<es.size:=by rw[x.len];exact(j7_).1
    obtain⟨k',q1,q2,_⟩:=x.get (IK ao);rw[B]at q1;cases q1;dsimp only;rw[IK ao,<-ea];refine GM pc!;rw[an!,fm_];rw[hj]at h;exact GM (KN (GO h))
  all_goals rw[<-ea]
  all_goals refine wpAny_ite_split (λ_=>ax) λ_=>?_
  rotate_right
  rw[GS ZD]
  all_goals refine wpAny_ite_split (λ_=>GM X!) λ_=>GM (a4i hk hst ?_)
  all_goals rw[an!]
  all_goals exact tl
 refine GM (PV _ (λrest b s'=>s'=s/\∃a9,b=(none,a9)/\(∀i∈rest,i<es.size)/\rest.Nodup/\
  (yf!\/∃j,a9=some j/\Lz ks k=some j/\Gx ks k j=true/\j∉rest)) _ ?_ ?_ _ _ ⟨rfl,none,rfl,hl,q9,.inl ⟨rfl,hf⟩⟩)
 rotate_left
 .rintro b s' ⟨rfl,a9,rfl,_,_,hc⟩;obtain⟨rfl,B⟩|⟨j,rfl,B,_⟩:=hc
  .rw[<-B]at h;exact GO h
  .rw[B]at h;exact GO h
 .rintro i rest b s' ⟨rfl,a9,rfl,J,h3,hc⟩;have ao:=J i GX;have he:es[i]?=some es[i]:=IK ao;obtain⟨k',q1,q2,q3⟩:=x.get he;obtain⟨n1,n2⟩:=HH.mp h3;show"#'";have stay:=λhne=>b2x hc q1 hne;rw[he];dsimp only;split
  .refine GM pc!;rw[an!];by_cases m8:k'=k
   rotate_left
   .rw[HF m8];simp only[HX,IN,Bool.false_and];exact GM (KN (GO ⟨rfl,a9,rfl,rs,n2,stay m8⟩))
   .have hi:=c1h q1 m8;rw[HY m8];obtain⟨rfl,B⟩|⟨j,e,B,h4,h5⟩:=hc
    .have hL:=B;rw[KZ,hi]at hL;simp only[IU,Option.isSome_none,HX,IN];refine GM g8!;split
     .rw[<-hL]at h;exact GO (GO h)
     .exact GO ⟨rfl,K_,rfl,rs,n2,.inr ⟨i,rfl,hL.symm,hi,n1⟩⟩
    .exact absurd (x.one hi h4) λz=>h5 (z▸GX)
  .rename_i hh;exact GO ⟨rfl,a9,rfl,rs,n2,stay yd_⟩
end
def Oa(h:Heap)(a:xK!)(es:ad!)(ep:Nat):Prop:=∃o,h.get? a=some o/\hP_/\o.data=.dict es.toArray ep
def Oa.typeIs{s:z2!}{a:xK!}{es:ad!}{ep:Nat}(D:hj!):s.TypeIs S_ "dict":=let⟨o,ho,hc,_⟩:=D;⟨o,ho,hc.1⟩
def Xn(es:ad!)(j:pc_)(h:Int)(u v:ys!):List DictEntry:=match j with
 |some j=>es.modify j λe=>{e with val:=v}
 |none=>es++[⟨h,u,v⟩]
def Xm(j:pc_)(ep:Nat):Nat:=match j with
 |some _=>ep
 |none=>ep+1
section
variable{P:z3!}{w:yt!}{A:xX!}{E:Value->Shared->Prop}{s:z2!}{a:xK!}{es:List DictEntry}{ep:Nat}{ks:List MK}{k:MK}{u v:ys!}
def d1i{Q:fh_}(hu:aq!)(D:hj!)(x:kD_)(hk:ec_)(h:∀tk,Q ((hh_).bind λj=>es[j]?.map (·.val)) {s with toks:=tk}):
  wpAny J_ A (dictGet a u) Q E s:=by
 obtain⟨o,ho,_,hd⟩:=D;unfold dictGet;refine IT pe!;have h:=h tk;cases hj:Lz ks k with
 |none=>rw[hj]at h;exact GO h
 |some j=>
  rw[hj]at h;refine GM (KG (s:=ed!) ho hd X!);rw[LG];exact h
def tZ{h:Heap}{f:Array DictEntry->Array DictEntry}{a7:ad!}{o:Obj}(ho:h.get? a=some o)(hc:hP_)(hd:o.data=.dict es.toArray ep)(he:f es.toArray=a7.toArray):
  Oa (h.update a (Obj.mapDict f)) a a7 ep/\Oa (h.update a (Obj.mapDictKeys f)) a a7 a8!:=
 ⟨⟨_,JX _ ho (Obj.isFreed_of_dict (Obj.data_mapDict hd _)),hc.mapDict _,by rw[Obj.data_mapDict hd,he]⟩,⟨_,JX _ ho (Obj.isFreed_of_dict (Obj.data_mapDictKeys hd _)),hc.mapDictKeys _,by rw[Obj.data_mapDictKeys hd,he]⟩⟩
def d1h{Q:cS_}(hu:aq!)(D:hj!)(x:kD_)(hk:ec_)(hl:pf!)
  (h:∀h' tk,Oa h' a (Xn es hh_ dr! u v) (Xm hh_ ep)->Heap.SameBut a s.heap h'->Q () {s with heap:=h',toks:=tk}):wpAny J_ A ym_ Q E s:=by
 obtain⟨o,ho,hc,hd⟩:=D;unfold dictSet;refine IT (GM (tS hu hk λtk=>?_));unfold dictSetHashed;refine IT (GM yl_);cases hj:Lz ks k with
 |none=>
  rw[hj]at h;exact GM (KN (QK (s:=ed!) ho hd (h _ tk (yn!).2 ea!) (hz:=kE!)))
 |some j=>
  rw[hj]at h;exact GM (KN (GM (wpAny_updateDict (s:=ed!) ho hd (wpAny_point (h _ tk (yn!).1 ea!)))))
def pV{Q:n_}(hu:aq!)(D:hj!)(x:kD_)(hk:ec_)(hl:pf!)
  (B:∀j e tk,Lz ks k=some j->es[j]?=some e->Q e.val {s with toks:=tk})
  (J:∀h' tk,Lz ks k=none->Oa h' a (es++[⟨mkHash P w k,u,v⟩]) a8!->Heap.SameBut a s.heap h'->Q v {s with heap:=h',toks:=tk}):wpAny J_ A (dictSetDefault a u v) Q E s:=by
 obtain⟨o,ho,hc,hd⟩:=D;unfold dictSetDefault;refine IT pe!;cases hj:Lz ks k with
 |none=>
  exact GM (KN (GM (QK (s:=ed!) ho hd (GO (J _ tk hj (tZ ho hc hd c_).2 ea!)) (hz:=kE!))))
 |some j=>
  have ao:j<U_:=by
   have:=(HC.mp (pL hj).1).1;rw[<-x.len]at this;show"#5"
  refine GM yo_;rw[LG,HJ ao];exact GM (KN (GO (B j _ tk hj (HJ ao))))
def c8m{j:Nat}{e:DictEntry}{Q:Option DictEntry->Shared->Prop}(hu:aq!)(D:hj!)(x:kD_)(hk:ec_)(hl:pf!)(hj:x9!)(he:es[j]?=some e)
  (h:∀h' tk,Oa h' a yp_ a8!->Heap.SameBut a s.heap h'->Q ij_ {s with heap:=h',toks:=tk}):wpAny J_ A yq! Q E s:=by
 obtain⟨o,ho,hc,hd⟩:=D;unfold Builtin.Dict.takeOut;refine IT pe!;rw[hj];refine GM yo_;rw[LG,he];have ao:j<U_:=(HC.mp he).1;refine GM (QK (s:=ed!) ho hd (GO (h _ tk (tZ ho hc hd ?_).2 ea!)) (hz:=kE!) (hf:=?_))
 .rw[Array.eraseIdxIfInBounds,dif_pos yq_];simp
 .rw[Array.eraseIdxIfInBounds];split
  .rw[Array.size_eraseIdx];omega
  .omega
end
def Lc:List D->Option (List L2.Key)
 |[]=>some []
 |.int i::r=>(Lc r).map (Sum.inl i::·)
 |.str x::r=>(Lc r).map (Sum.inr x::·)
 |_::_=>none
def Dk:D->Option MK
 |.non=>some none
 |.int i=>some (some (.inl (.inl i)))
 |.str x=>some (some (.inl (.inr x)))
 |.tup xs=>(Lc xs).map λks=>some (.inr ks)
 |_=>none
def zL:∀{xs ys:a_} {ks:pb!},Lc xs=some ks->Lc ys=some ks->xs=ys
 |[],ys,ks,h,h'=>by
  cases h;cases ys with
  |nil=>rfl
  |cons y r=>cases y<;>simp[Lc]at h'
 |x::xs,[],ks,h,h'=>by
  cases h';cases x<;>simp[Lc]at h
 |x::xs,y::ys,ks,h,h'=>by
  cases x<;>simp only[Lc]at h<;>first|(cases h;done)|skip
  all_goals (obtain⟨l,e1,rfl⟩:=GU.mp h)
  all_goals (cases y<;>simp only[Lc]at h'<;>first|(cases h';done)|skip)
  all_goals (obtain⟨l',e2,e3⟩:=GU.mp h')
  all_goals (injection e3 with e4 e5)
  all_goals first|(injection e4;done)|skip
  all_goals (injection e4 with e4;subst e4 e5;rw[zL e1 e2])
def b1w(h:hk!)(h':cg!):x=y:=by
 cases x<;>simp only[Dk]at h<;>first|(cases h;done)|skip
 all_goals (cases y<;>simp only[Dk]at h'<;>first|(cases h';done)|skip)
 all_goals first
  |rfl
  |(cases h;cases h';rfl)
  |(cases h;cases h')
  |(cases h;obtain⟨l,e1,e2⟩:=GU.mp h';cases e2)
  |(cases h';obtain⟨l,e1,e2⟩:=GU.mp h;cases e2)
  |(obtain⟨l,e1,e2⟩:=GU.mp h;obtain⟨l',e3,e4⟩:=GU.mp h';cases e2;cases e4;rw[zL e1 e3])
def Cu(K:z1!)(G:Hp)(d:D)(u:ys!):Prop:=∃v,Ar K G d v/\Bp v u
def Cu.mono{K:z1!}{G G':Hp}(e:kF!)(h:Cu K G d u):Cu K G' d u:=let⟨v,B,J⟩:=h;⟨v,B.mono e,J⟩
def a4w{K:z1!}{G:Hp}:∀{ds:a_} {vs:k!} {ks:pb!},Am K G ds vs->Lc ds=some ks->vs=ks.map kV
 |[],vs,ks,r,e=>by cases cM r;cases e;rfl
 |d::ds,vs,ks,r,e=>by
  obtain⟨v,t,rfl,r1,r2⟩:=bJ r;cases d<;>simp only[Lc]at e<;>first|(cases e;done)|skip
  all_goals (obtain⟨l,e1,rfl⟩:=GU.mp e;rw[a4w r2 e1])
  .cases bA r1;rfl
  .cases bY r1;rfl
def qO{X:Cx}{O:j!}{Z:St}{G H:Hp}{s:z2!}(I:c!)(sub:L!)(r:bV_)(e:bm!):Jp X.prog X.w s.heap k u:=by
 obtain⟨v,r,ru⟩:=r;cases d<;>simp only[Dk]at e<;>first|(cases e;done)|skip
 .cases e;cases dY r;exact ru
 .cases e;cases bA r;obtain⟨t,rfl⟩:=ru;exact zM _ _
 .cases e;cases bY r;obtain⟨t,rfl⟩:=ru;exact rG _ _
 .obtain⟨ks,e1,rfl⟩:=GU.mp e;obtain⟨a,vs,rfl,q,rr⟩:=bO r;cases ru;show"#1";rw[a4w rr e1]at rv;exact⟨a,rfl,o,aO!,n,B,J,h3,by simpa using rH rv⟩
open Classical in
nonrec def kget:List ax_->D->Option D
 |[],_=>none
 |(k,v)::r,d=>if k=d then some v else kget r d
open Classical in
def Aq:List ax_->D->D->List ax_
 |[],d,v=>[(d,v)]
 |(k,x)::r,d,v=>if k=d then(k,v)::r else(k,x)::Aq r d v
open Classical in
def Ge:List ax_->D->List ax_
 |[],_=>[]
 |(k,x)::r,d=>if k=d then r else(k,x)::Ge r d
section
variable{P:z3!}{w:yt!}{K:z1!}{G G':Hp}
variable (P w K G)in
def BW(p:D×D)(e:DictEntry):Prop:=Cu K G p.1 e.key/\Cu K G p.2 e.val/\∃k,Dk p.1=some k/\e.hash=mkHash P w k
variable (P w K G)in
def Hf(kvs:g!)(es:ad!):Prop:=Paired (BW P w K G) kvs es/\(fo_).Nodup
def Hf.mono{es:ad!}(e:kF!)(h:fp!):Hf P w K G' kvs es:=
 ⟨Paired.mapP h.1 λp q z=>⟨z.1.mono e,z.2.1.mono e,z.2.2⟩,h.2⟩
def Hx(kvs:g!):List MK:=kvs.map λp=>(Dk p.1).getD none
def gD{α β:Type}{F:cQ_}:∀{l:H_} {m:dy_} {i:Nat} {a:α},Paired F l m->l[i]?=some a->∃b,m[i]?=some b/\F a b
 |_,_,_,_,.nil,e=>by simp at e
 |_,_,0,_,.cons r _,e=>by simp at e;subst e;exact lv!
 |_,_,i+1,a,.cons _ t,e=>by
  obtain⟨b,B,J⟩:=gD (i:=i) (a:=a) t cP_;exact⟨b,hN_,J⟩
def jC{α β:Type}{F:cQ_}:∀{l l':H_} {m m':dy_},Paired F l m->Paired F l' m'->Paired F (l++l') (m++m')
 |_,_,_,_,.nil,h=>h
 |_,_,_,_,.cons r t,h=>.cons r (jC t h)
def nE{α β:Type}{F:cQ_}{f:α->α}{g:β->β}:∀{l:H_} {m:dy_} (j:Nat),Paired F l m->(∀a b,l[j]?=some a->m[j]?=some b->F a b->F (f a) (g b))->Paired F (l.modify j f) (m.modify j g)
 |_,_,j,.nil,_=>by simpa using Paired.nil
 |_,_,0,.cons r t,h=>.cons (h _ _ rfl rfl r) t
 |_,_,j+1,.cons r t,h=>.cons r (nE j t λa b e1 e2=>h a b (by simpa using e1) (by simpa using e2))
def oR{α β:Type}{F:cQ_}:∀{l:H_} {m:dy_} (j:Nat),Paired F l m->Paired F (l.eraseIdx j) (m.eraseIdx j)
 |_,_,_,.nil=>.nil
 |_,_,0,.cons _ t=>t
 |_,_,j+1,.cons r t=>.cons r (oR j t)
def Hf.ents{X:Cx}{O:j!}{Z:St}{H:Hp}{s:z2!}{es:ad!}(I:c!)(sub:L!)(h:Hf X.prog X.w X.K G kvs es):Nv X.prog X.w s.heap es.toArray fp_:=by
 obtain⟨B,J⟩:=h;refine⟨by simp[Hx,LN B],λi e k he hk=>?_,?_⟩
 .rw[LG]at he;unfold Hx at hk;rw[IB]at hk;obtain⟨p,hp,rfl⟩:=GU.mp hk;obtain⟨e',k9,q1,_,k',q2,q3⟩:=gD B hp;rw[he]at k9;cases k9;rw[q2];exact⟨qO I sub q1 q2,q3⟩
 .have li:∀{l:g!} {m:ad!},Paired (BW X.prog X.w X.K G) l m->(ee!).Nodup->(Hx l).Nodup:=by
   intro l m hp
   induction hp with
   |nil=>intro _;exact MX
   |@cons p e l m q t ih=>
    intro nd;rw[GY,HH]at nd;show(_::Hx l).Nodup;rw[HH];refine⟨cI_,ih nd.2⟩;obtain⟨p',b6,e'⟩:=HK.mp z;obtain⟨_,_,k,hk,_⟩:=q;obtain⟨i,hi⟩:=LZ.mp b6;obtain⟨_,_,_,_,k',cx,_⟩:=gD t hi;dsimp only at e';rw[hk,cx]at e';have:k'=k:=e';subst this;exact nd.1 (HK.mpr ⟨p',b6,b1w cx hk⟩)
  exact li B J
def Hf.look{kvs:g!}{es:ad!}(h:fp!)(hd:bm!):
  (Lz fp_ k=none/\kget kvs d=none/\(∀v,Aq kvs d v=kvs++[(d,v)])/\d∉kvs.map b_)\/∃j x e,Lz fp_ k=some j/\kvs[j]?=some cg_/\es[j]?=some e/\kget kvs d=some x/\Cu K G x e.val/\(∀v,Aq kvs d v=kvs.modify j λp=>(p.1,v))/\Ge kvs d=kvs.eraseIdx j:=by
 obtain⟨B,J⟩:=h
 induction B with
 |nil=>exact .inl ⟨rfl,rfl,gj_,F!⟩
 |@cons p e l m q t ih=>
  obtain⟨y,z⟩:=p;rw[GY,HH]at J;obtain⟨_,q2,k',q3,_⟩:=q;have q3:Dk y=some k':=q3;have ou:Hx ((y,z)::l)=k'::Hx l:=by unfold Hx;rw[GY,q3];rfl
  by_cases hy:y=d
  .subst hy;rw[hd]at q3;cases q3;refine .inr ⟨0,z,e,?_,rfl,rfl,by simp[kget],q2,λv=>by simp[Aq,List.modify],by simp[Ge]⟩;rw[ou];unfold Lz;rw[List.findIdx?_cons];simp
  .have hne:k'≠k:=λe=>hy (b1w q3 (e▸hd));have cx:Lz (Hx ((y,z)::l)) k=(Lz (Hx l) k).map (·+1):=by
    rw[ou];unfold Lz;rw[List.findIdx?_cons];simp[hne]
   obtain⟨i1,i2,i3,i4⟩|⟨j,x,e',i1,i2,i3,i4,i5,i6,i7⟩:=ih J.2
   .refine .inl ⟨yv!,by simp[kget,hy,i2],λv=>by simp[Aq,hy,i3 v],?_⟩;rw[GY,GR,NV];exact⟨λe=>hy e.symm,i4⟩
   .exact .inr ⟨j+1,x,e',yv!,by simpa using i2,by simpa using i3,by simp[kget,hy,i4],i5,λv=>by simp[Aq,hy,i6 v],by simp[Ge,hy,i7]⟩
def Hf.put{es:ad!}(h:fp!)(hd:bm!)(ru:Cu K G d u)(rv:Cu K G x v):Hf P w K G pk! (Xn es (Lz fp_ k) dr! u v):=by
 obtain⟨i1,i2,i3,i4⟩|⟨j,y,e',i1,i2,i3,i4,i5,i6,i7⟩:=h.look hd
 .rw[i1,i3];refine⟨jC h.1 (.cons ⟨ru,rv,k,hd,rfl⟩ .nil),?_⟩;rw[HU,IG];refine⟨h.2,F!,yv_⟩;simp at Y;subst Y e;exact i4 ha
 .rw[i1,i6];refine⟨nE j h.1 λa b _ _ q=>⟨q.1,rv,q.2.2⟩,?_⟩;have:∀(l:g!) (j:Nat),(l.modify j λp=>(p.1,x)).map b_=l.map b_:=by
   intro l
   induction l with
   |nil=>intro j;simp
   |cons p l ih=>
    intro j;cases j with
    |zero=>simp
    |succ j=>simp[ih j]
  rw[this];exact h.2
def Hf.del{kvs:g!}{es:ad!}{j:Nat}(h:fp!):Hf P w K G (kvs.eraseIdx j) yp_:=by refine⟨oR j h.1,?_⟩;exact h.2.sublist ((List.eraseIdx_sublist kvs j).map _)
end
inductive Nx where
 |lst (xs:a_)|dct (kvs:g!) (ep:Nat)|obj (C:xK!) (fs:aN_)
abbrev Mh:=Addr->Option Nx
def Az(M:Mh)(a:xK!)(c:Nx):Mh:=λb=>if b=a then some c else M b
def mup_same{M:Mh}{a:xK!}{c:Nx}:Az M a c a=some c:=by unfold Az;rw[m_]
def mup_ne{M:Mh}{a b:xK!}{c:Nx}(h:b≠a):Az M a c b=M b:=by unfold Az;rw[GS h]
nonrec def dE(a:xK!)(es:ad!)(ep:Nat):HO:=.ext λh=>Oa h a es ep/\dy!=false/\U_<=big
def Nu(K:z1!)(G:Hp):List cf!->List dx_->Prop:=Paired λp q=>p.1=q.1/\Ar K G p.2 q.2
section
variable(P:z3!)(w:yt!)(K:z1!)
def Gq(G H:Hp)(a:xK!):Nx->Prop
 |.lst xs=>∃vs,H a=some dg_/\Am K G xs vs
 |.dct kvs ep=>∃es,H a=some kG!/\Hf P w K G kvs es
 |.obj C fs=>∃dx vs,H a=some yw_/\Nu K G fs vs
structure MR(M:Mh)(G H:Hp):Prop where
 cell:∀a c,M a=some c->G a=none/\Gq P w K G H a c
end
structure XM(M:Mh)(G H:Hp)(M':Mh)(G' H':Hp):Prop where
 g:Bf G G'
 sub:Bf G' H'
 new:∀b,G' b≠none->G b≠none\/H b=none
 keep:∀b o,H b=some o->M b=none->H' b=some o
 dom:∀b,M' b≠none->M b≠none\/H b=none
 cells:∀b,M b≠none->M' b≠none
def XM.refl{M:Mh}{G H:Hp}(s:L!):XM M G H M G H:=⟨e6!,s,jL!,λ_ _ h _=>h,jL!,λ_ h=>h⟩
def XM.free{M M':Mh}{G H G' H':Hp}{b:xK!}(x:kG_)(hM:M b=none)(h:H' b=none):H b=none:=by
 cases e:H b with
 |none=>rfl
 |some o=>rw[x.keep b o e hM]at h;cases h
section
variable{P:z3!}{w:yt!}{K:z1!}{M M1 M2:Mh}{G H G' H' G1 H1 G2 H2:Hp}
def Nu.mono{fs:aN_}{vs:eq_}(e:kF!)(h:Nu K G fs vs):Nu K G' fs vs:=Paired.mapP h λ_ _ z=>⟨z.1,z.2.mono e⟩
def Gq.mono{a:xK!}{c:Nx}(e:kF!)(h:yx!)(hH:H' a=H a):Gq P w K G' H' a c:=by
 cases c with
 |lst xs=>obtain⟨vs,B,J⟩:=h;exact⟨vs,pl!,J.mono e⟩
 |dct kvs ep=>obtain⟨es,B,J⟩:=h;exact⟨es,pl!,J.mono e⟩
 |obj C fs=>obtain⟨dx,vs,B,J⟩:=h;exact⟨dx,vs,pl!,J.mono e⟩
def Gq.has{a:xK!}{c:Nx}(h:yx!):H a≠none:=by
 cases c with
 |lst xs=>obtain⟨vs,B,J⟩:=h;rw[B];simp
 |dct kvs ep=>obtain⟨es,B,J⟩:=h;rw[B];simp
 |obj C fs=>obtain⟨dx,vs,B,J⟩:=h;rw[B];simp
def MR.has(m:ch!){c:xK!}(h:M c≠none):H c≠none:=by
 cases e:M c with
 |none=>exact absurd e h
 |some q=>exact(m.cell c q e).2.has
def XM.trans(a:XM M G H M1 G1 H1)(b:XM M1 G1 H1 M2 G2 H2)(m:yy!):XM M G H M2 G2 H2 where
 g:=a.g.trans b.g
 sub:=b.sub
 new:=λc h=>by
  obtain z|z:=b.new c h
  .exact a.new c z
  .cases hM:M c with
   |none=>exact .inr (a.free hM z)
   |some q=>exact absurd z (m.has (a.cells c yy_))
 keep:=λc o h hM=>by
  refine b.keep c o (a.keep c o h hM) ?_;cases e:M1 c with
  |none=>rfl
  |some q=>
   rcases a.dom c kI! with z|z
   .exact absurd hM z
   .rw[h]at z;cases z
 dom:=λc h=>by
  obtain z|z:=b.dom c h
  .exact a.dom c z
  .cases hM:M c with
   |none=>exact .inr (a.free hM z)
   |some q=>exact .inl c_
 cells:=λc h=>b.cells c (a.cells c h)
def XM.ext(x:jM!):XM M G H M G' H':=⟨x.g,x.sub,x.new,λb o h _=>x.h b o h,jL!,λ_ h=>h⟩
def MR.ext(m:ch!)(x:jM!):MR P w K M G' H':=⟨λa c e=>by
 obtain⟨B,J⟩:=m.cell a c e;have hn:H a≠none:=J.has;refine yz_
 .cases q:G' a with
  |none=>rfl
  |some o=>
   rcases x.new a cw! with z|z
   .exact absurd B z
   .exact absurd z hn
 .cases q:H a with
  |none=>exact absurd q hn
  |some o=>exact x.h a o q⟩
end
structure Sh(P:z3!)(w:yt!)(K:z1!)(own:i_)(G H:Hp)(Z:St)(ρ:Ad)(M:Mh):Prop where
 or:OR K own G H Z ρ
 mr:MR P w K M G H
 dj:∀i∈own,∀p,Z[i]?=some cb_->M p=none
section
variable{P:z3!}{w:yt!}{K:z1!}{own:List Nat}{M M' M1 M2:Mh}{G H G' H' G1 H1 G2 H2:Hp}{Z:St}{ρ:Ad}
def OR.growM(h:cc!)(x:kG_)(dj:∀i∈own,∀p,Z[i]?=some cb_->M p=none):OR K own G' H' Z ρ where
 sub:=x.sub
 len:=h.len
 at_:=λi d q n=>let⟨v,B,J⟩:=h.at_ i d q n;vP_
 own_:=λi hi=>by
  obtain⟨p,ds,vs,B,J,h3,h4,h5⟩:=h.own_ i hi;refine⟨p,ds,vs,B,J,x.keep _ _ h3 (dj i hi p J),?_,h5.mono x.g⟩;cases q:G' p with
  |none=>rfl
  |some o=>
   rcases x.new p cw! with z|z
   .exact absurd h4 z
   .rw[h3]at z;cases z
 dis:=h.dis
def Sh.grow(s:hl_)(x:kG_)(m:wF!):Sh P w K own G' H' Z ρ M':=
 ⟨s.or.growM x s.dj,m,λi hi p e=>by
  cases q:M' p with
  |none=>rfl
  |some c=>
   obtain⟨p',ds,vs,B,J,h3,h4,h5⟩:=s.or.own_ i hi;rw[e]at J;cases J;rcases x.dom p cw! with z|z
   .exact absurd (s.dj i hi p e) z
   .rw[h3]at z;cases z⟩
end
abbrev WE:=Ad->Mh->pn!->Prop
abbrev WA:=Ad->Mh->yA_->Prop
abbrev WT:=Ad->Mh->(Bool->Mh->Prop)->Prop
section
variable(P:z3!)(w:yt!)(K:z1!)(own:List Nat)
inductive AG(f:WE)(Z:St)(H:Hp)(Q:VK):Prop
 |mk (G:Hp) (ρ:Ad) (M:Mh) (R:u_) (st:hl_) (e:hm_) (k:∀d M' v G' H',R d M'->XM M G H M' G' H'->MR P w K M' G' H'->Ar K G' d v->Q v H'):AG f Z H Q
inductive EY(f:WA)(Z:St)(H:Hp)(Q:cT_):Prop
 |mk (G:Hp) (ρ:Ad) (M:Mh) (R:pn_) (st:hl_) (e:hm_) (k:∀d M' v G' H',R d M'->XM M G H M' G' H'->MR P w K M' G' H'->Am K G' d v->Q v H'):EY f Z H Q
inductive Xz(f:WT)(Z:St)(H:Hp)(Q:dB!):Prop
 |mk (G:Hp) (ρ:Ad) (M:Mh) (R:fq!) (st:hl_) (e:hm_) (k:∀d M' G' H',R d M'->XM M G H M' G' H'->MR P w K M' G' H'->Q d H'):Xz f Z H Q
end
structure ME(X:Cx)(own:i_)(e:Expr)(f:WE):Prop where
 ok:PE X e (AG X.prog X.w X.K own f)
structure MA(X:Cx)(own:i_)(es:bK!)(f:WA):Prop where
 ok:PA X es (EY X.prog X.w X.K own f)
structure MT(X:Cx)(own:i_)(e:Expr)(f:WT):Prop where
 ok:PT X e yB_
structure MW(X:Cx)(own:i_)(e:Expr)(f:WT):Prop where
 ok:PW X e yB_
nonrec def wl(f:e_):WE:=λρ M R=>match f ρ with|some d=>R d M|none=>False
def Dh(f:aj!):WT:=λρ M R=>match f ρ with|some d=>R d M|none=>False
section
variable{X:Cx}{own:List Nat}{e a b c:Expr}{es rest:List Expr}{pos:Pos}{f fa fb fc:WE}{fs:WA}{ft fu:WT}{g:Ad->Option D}{gs:Ad->Option (List D)}{gt:Ad->Option Bool}
def eS{t:TE}(h:id!)(hw:∀Z G H Q ρ M R,Sh X.prog X.w X.K own G H Z ρ M->f ρ M R->(∀d M' v G' H',R d M'->XM M G H M' G' H'->MR X.prog X.w X.K M' G' H'->Ar X.K G' d v->Q v H')->t Z H Q):ME X own e f:=
 yC_
def c5n{t:TA}(h:gm_)(hw:∀Z G H Q ρ M R,Sh X.prog X.w X.K own G H Z ρ M->fs ρ M R->(∀d M' v G' H',R d M'->XM M G H M' G' H'->MR X.prog X.w X.K M' G' H'->Am X.K G' d v->Q v H')->t Z H Q):MA X own es fs:=
 ⟨λp O s Z H Q I ⟨G,ρ,M,R,st,e,k⟩=>h p O s Z H Q I po!⟩
def b1v{t:TT}(h:PT X e t)(hw:yD!):MT X own e ft:=
 yC_
def c5i{t:TT}(h:PW X e t)(hw:yD!):MW X own e ft:=
 ⟨λwh O s Z H Q I ⟨G,ρ,M,R,st,e,k⟩=>h wh O s Z H Q I po!⟩
def c1c{ρ:Ad}{M:Mh}{R:u_}(h:wl g ρ M R):∃d,g ρ=some d/\R d M:=by
 unfold wl at h;split at h
 .exact yD_
 .exact h.elim
def b5j{ρ:Ad}{M:Mh}{R:fq!}(h:Dh gt ρ M R):∃d,gt ρ=some d/\R d M:=by
 unfold Dh at h;split at h
 .exact yD_
 .exact h.elim
def aD(h:DE X own e g):ME X own e (wl g):=eS h.ok λZ G H Q ρ M R st e' k=>by
 obtain⟨d,e1,e2⟩:=c1c e';exact⟨G,ρ,d,st.or,e1,λv G' H' x r=>k d M v G' H' e2 (.ext x) pp_ r⟩
def fE(h:DT X own e gt):MT X own e (Dh gt):=b1v h.ok λZ G H Q ρ M R st e' k=>by
 obtain⟨d,e1,e2⟩:=b5j e';exact⟨G,ρ,d,st.or,e1,λG' H' x=>k d M G' H' e2 (.ext x) pp_⟩
def Ag:WA:=λ_ M R=>R [] M
def Ac(f:WE)(fs:WA):WA:=λρ M R=>f ρ M λd M1=>fs ρ M1 λds M2=>R dV_ M2
def aP:MA X own [] Ag:=c5n fR λZ G H Q ρ M R st e k=>k [] M [] G H e kI_ st.mr Am.nil
def aF(h:bH!)(hs:kJ!)(hst:am!:=by rfl):MA X own aG_ (Ac f fs):=
 c5n v6_ λZ G H Q ρ M R st e' k=>⟨G,ρ,M,_,st,e',λd M1 v G1 H1 r1 x1 m1 q1=>⟨G1,ρ,M1,_,st.grow x1 m1,r1,λds M2 vs G2 H2 r2 x2 m2 q2=>
  k _ M2 _ G2 H2 r2 cJ_ m2 (Am.cons ci! q2)⟩⟩
def Wx(P:z3!)(w:yt!)(K:z1!)(r:R2)(g:ci_):Prop:=∀{x y:V} {dx dy d:D} {M:Mh} {G H:Hp} {Q:VK},Bf G H->MR P w K M G H->Ar K G dx x->Ar K G dy y->g M dx dy=some d->jR!->r x y H Q
def Ie.m{P:z3!}{w:yt!}{K:z1!}{r:R2}{g:a4_}(h:Ie K r g):Wx P w K r pq_:=λs _ rx ry e k=>h s rx ry e k
nonrec def w2(g:ci_)(fa fb:WE):WE:=λρ M R=>fa ρ M λx M1=>fb ρ M1 λy M2=>match g M2 x y with|some d=>R d M2|none=>False
def c1j{r:R2}{gm:ci_}(hg:hn!){Z:St}{G H:Hp}{Q:VK}{ρ:Ad}{M:Mh}{R:u_}(st:yF_)(e:w2 gm fa fb ρ M R)
  (k:∀d M' v G' H',R d M'->XM M G H M' G' H'->MR X.prog X.w X.K M' G' H'->Ar X.K G' d v->Q v H'):Zy r (AG X.prog X.w X.K own fa) (AG X.prog X.w X.K own fb) Z H Q:=
 ⟨G,ρ,M,_,st,e,λx M1 u G1 H1 r1 x1 m1 q1=>⟨G1,ρ,M1,_,st.grow x1 m1,r1,λy M2 v G2 H2 r2 x2 m2 q2=>by
  have r2:(match gm M2 x y with|some d=>R d M2|none=>False):=r2;split at r2
  .rename_i d hd;exact hg x2.sub m2 ci! q2 hd λz G3 H3 x3 q3=>k d M2 z G3 H3 r2 ((cJ_).trans (.ext x3) m2) (m2.ext x3) q3
  .exact r2.elim⟩⟩
def zG{op:Operator}{r:R2}{gm:ci_}(ho:my!)(hg:hn!)(ha:ay!)(Y:cK!):ME X own my_ kJ_:=
 eS vX! λZ G H Q ρ M R st e k=>c1j hg st e k
def kI{op:CmpOp}{r:R2}{gm:ci_}(ho:b4_)(hg:hn!)(ha:ay!)(Y:cK!)(hm:dB_):ME X own dC! kJ_:=
 eS vW! λZ G H Q ρ M R st e k=>c1j hg st e k
def cF{r:R2}{gm:ci_}(hr:Vn X r)(hg:hn!)(ha:ay!)(Y:cK!)(hs:Pk b):ME X own nn! kJ_:=
 eS vW_ λZ G H Q ρ M R st e k=>c1j hg st e k
nonrec def wT(f:WE):WT:=λρ M R=>f ρ M λd M1=>match d with|.bl b=>R b M1|_=>False
def dZ{op:CmpOp}{r:R2}{gm:ci_}(ho:b4_)(hg:hn!)(ha:ay!)(Y:cK!)(hm:dB_):MT X own dC! (wT kJ_):=
 b1v vX_ λZ G H Q ρ M R st e k=>c1j (own:=own) (Q:=vY!) hg st e λd M' v G' H' r' x' m' q'=>by
  cases d<;>first|exact r'.elim|skip
  cases cV q';exact yH!
def fD(h:bH!)(he:id_:=by intro _;rfl):MT X own e (wT f):=
 b1v (b6o h.ok he) λZ G H Q ρ M R st e k=>⟨G,ρ,M,_,st,e,λd M' v G' H' r' x' m' q'=>by
  cases d<;>first|exact r'.elim|skip
  cases cV q';exact yH!⟩
def Gj(ft fu:WT):WT:=λρ M R=>ft ρ M λb M1=>if b then fu ρ M1 R else R false M1
def Wu(ft fu:WT):WT:=λρ M R=>ft ρ M λb M1=>if b then R true M1 else fu ρ M1 R
def Jl(ft:WT):WT:=λρ M R=>ft ρ M λb M1=>R (!b) M1
def kE(h:hn_):MW X own l3! ft:=vZ!
def a9e(h:hn_):MW X own l3_ ft:=vZ_
def nS(ha:hn_)(Y:MW X own eA! fu):MW X own eA_ (Gj ft fu):=
 c5i v0! λZ G H Q ρ M R st e k=>⟨G,ρ,M,_,st,e,λx M1 G1 H1 r1 x1 m1=>by
  cases x with
  |true=>exact lA yJ!
  |false=>exact lB yK!⟩
def b8g(ha:hn_)(Y:MW X own eB! fu):MW X own eB_ (Wu ft fu):=
 c5i v1! λZ G H Q ρ M R st e k=>⟨G,ρ,M,_,st,e,λx M1 G1 H1 r1 x1 m1=>by
  cases x with
  |false=>exact lB yJ!
  |true=>exact lA yK!⟩
def xN(h:MW X own e ft):MT X own e ft:=⟨h.ok.pt⟩
def nT(h:hn_):MT X own eC! (Jl ft):=
 b1v (b6q h.ok) λZ G H Q ρ M R st e k=>⟨G,ρ,M,_,st,e,λx M1 G1 H1 r1 x1 m1=>k _ M1 G1 H1 r1 x1 m1⟩
def Mc(fa fb:WE):WE:=λρ M R=>wT fa ρ M λb M1=>if b then fb ρ M1 R else R ah_ M1
def Vb(fa fb:WE):WE:=λρ M R=>wT fa ρ M λb M1=>if b then R A! M1 else fb ρ M1 R
def Vs(fa:WE):WE:=λρ M R=>wT fa ρ M λb M1=>R (.bl (!b)) M1
def vO{op:BoolOp}(h:ay!):ME X own l6! fa:=v2!
def a1u(ha:ay!)(Y:ME X own eA! fb):ME X own eA_ (Mc fa fb):=
 eS v2_ λZ G H Q ρ M R st e k=>⟨G,ρ,M,_,st,e,λd M1 v G1 H1 r1 x1 m1 q1=>by
  cases d<;>first|exact r1.elim|skip
  rename_i x;cases cV q1;refine jS!;cases x with
  |true=>exact lA kK_
  |false=>exact lB yM!⟩
def c5l(ha:ay!)(Y:ME X own eB! fb):ME X own eB_ (Vb fa fb):=
 eS v4_ λZ G H Q ρ M R st e k=>⟨G,ρ,M,_,st,e,λd M1 v G1 H1 r1 x1 m1 q1=>by
  cases d<;>first|exact r1.elim|skip
  rename_i x;cases cV q1;refine jS!;cases x with
  |false=>exact lB kK_
  |true=>exact lA yM!⟩
def c7t(ha:ay!):ME X own eC! (Vs fa):=
 eS (b7j ha.ok) λZ G H Q ρ M R st e k=>⟨G,ρ,M,_,st,e,λd M1 v G1 H1 r1 x1 m1 q1=>by
  cases d<;>first|exact r1.elim|skip
  cases cV q1;exact⟨_,rfl,k _ M1 _ G1 H1 r1 x1 m1 Ar.bl⟩⟩
def AD(ft:WT)(fa fb:WE):WE:=λρ M R=>ft ρ M λb M1=>if b then fa ρ M1 R else fb ρ M1 R
def c5m(hc:kL!)(ha:ay!)(Y:cK!):ME X own l9! (AD ft fa fb):=
 eS v6! λZ G H Q ρ M R st e k=>⟨G,ρ,M,_,st,e,λx M1 G1 H1 r1 x1 m1=>by
  cases x with
  |true=>exact lA kK_
  |false=>exact lB kK_⟩
def Wz(fs:WA):WE:=λρ M R=>fs ρ M λds M1=>f_<=1000/\R dg! M1
def c7s{n:Nat}(h:kJ!):ME X own (.Tuple es n pos) (Wz fs):=
 eS (b7f h.ok) λZ G H Q ρ M R st e k=>⟨G,ρ,M,_,st,e,λds M1 vs G1 H1 r1 x1 m1 q1=>⟨by rw[<-aJ q1];exact gN r1.1,λp hp=>
  k _ M1 _ _ _ r1.2 (x1.trans (.ext yN!) m1) (m1.ext yN!) (fL (x1.sub.free hp) q1)⟩⟩
end
section
variable{P:z3!}{w:yt!}{K:z1!}{M:Mh}{G H:Hp}{p a:xK!}{o:HO}{c c0:Nx}
def MR.nocell(m:ch!)(h:cy_):M p=none:=by
 cases e:M p with
 |none=>rfl
 |some q=>exact absurd h (m.has kI!)
def XM.laid(s:L!)(hp:cy_):XM M G H pt_ G e5_:=by
 show"#0";refine⟨e6!,λb u e=>by rw[aY (ne (s b u e))];exact s b u e,dm_,λb u e _=>by rw[aY (ne e)];exact e,bh_,bh_⟩
 .by_cases Y:b=p
  .subst Y;exact .inr hp
  .rw[bm_]at h;exact .inl h
 .by_cases Y:b=p
  .subst Y;rw[mup_same];simp
  .rw[bm_];exact h
def MR.laid(m:ch!)(hp:cy_)(s:L!)(h:Gq P w K G e5_ p c):MR P w K pt_ G e5_:=⟨λb q e=>by
 by_cases Y:b=p
 .show"#$";exact⟨s.free hp,h⟩
 .rw[bm_]at e;obtain⟨B,J⟩:=m.cell b q e;exact yP_⟩
def XM.write(m:ch!)(s:L!)(ha:M a=some c0):XM M G H (Az M a c) G cR!:=by
 have hG:=(m.cell a c0 ha).1;refine⟨e6!,λb u e=>by rw[aY (cC e hG)];exact s b u e,dm_,λb u e Y=>?_,bh_,bh_⟩
 .have:b≠a:=λz=>by subst z;rw[ha]at Y;cases Y
  rw[aY this];exact e
 .by_cases Y:b=a
  .subst Y;exact .inl (by rw[ha];simp)
  .rw[bm_]at h;exact .inl h
 .by_cases Y:b=a
  .subst Y;rw[mup_same];simp
  .rw[bm_];exact h
def MR.write(m:ch!)(ha:M a=some c0)(h:Gq P w K G cR! a c):MR P w K (Az M a c) G cR!:=⟨λb q e=>by
 by_cases Y:b=a
 .show"#$";exact⟨(m.cell _ c0 ha).1,h⟩
 .rw[bm_]at e;obtain⟨B,J⟩:=m.cell b q e;exact yP_⟩
end
open Classical in
def Fx(kvs:g!)(d:D)(ep:Nat):Nat:=if(ds!).isSome then ep else ep+1
def FN(K:z1!)(G:Hp):Option D->Option Value->Prop
 |some d,some u=>Cu K G d u
 |none,none=>True
 |_,_=>False
section
variable{X:Cx}{O:List (Addr×Obj)}{Z:St}{G H:Hp}{s:z2!}{M:Mh}{a:xK!}{kvs:List (D×D)}{ep:Nat}{A:xX!}{E:Value->Shared->Prop}{d x:D}{k:MK}{u v:ys!}
def eI(I:c!)(m:bW_)(sub:L!)(e:cj!):∃es,H a=some kG!/\Hf X.prog X.w X.K G kvs es/\Oa s.heap a es ep/\dy!=false/\U_<=big/\Nv X.prog X.w s.heap es.toArray fp_:=by obtain⟨es,B,J⟩:=(m.cell a _ e).2;obtain⟨⟨h3,h4,h5⟩,_⟩:=(show Er X.prog X.w H s.heap a kG! from I.hok a _ B);exact⟨es,B,J,h3,h4,h5,J.ents I sub⟩
def a3t{t':Nat}{es a7:ad!}{be:Nat}(I:c!)(e:H a=some kG!)(D':Oa h' a a7 be)(hs:uD_)(hn:dy!=false)(hl:a7.length<=big):Inv X O Z (upd H a (dE a a7 be)) {s with heap:=h',toks:=t'}:=by refine c4p I sQ! hs (let⟨o,h,_⟩:=D';pu_) ⟨⟨D',hn,hl⟩,let⟨o,h,_⟩:=D';pu_,yR!⟩;obtain⟨⟨o,z1,z2,z3⟩,z4⟩:=z;exact pv_
def a3v{Q:fh_}(hu:aq!)(I:c!)(m:bW_)(sub:L!)(e:cj!)(r:bV_)(hk:bm!)
  (h:∀o s',Inv X O Z H s'->FN X.K G ds! o->Q o s'):wpAny e! A (dictGet a u) Q E s:=by
 obtain⟨es,B,J,h3,h4,h5,h6⟩:=eI I m sub e;refine d1i hu h3 h6 hr_ λtk=>h _ _ iQ! ?_;obtain⟨i1,i2,i3,i4⟩|⟨j,y,e',i1,i2,i3,i4,i5,i6,i7⟩:=J.look hk
 .rw[i1,i2];exact iQ_
 .rw[i1,i4];show FN X.K G (some y) (es[j]?.map (·.val));rw[i3];exact i5
def kput_len:∀(l:g!) (d x:D),(Aq l d x).length<=Y!+1
 |[],_,_=>by simp[Aq]
 |(y,z)::l,d,x=>by
  unfold Aq;split
  .simp
  .have:=kput_len l d x;simp only[HA];omega
def c0m{Q:cS_}(hu:aq!)(I:c!)(m:bW_)(sub:L!)(e:cj!)(r:bV_)(hk:bm!)(rv:kL_)(hl:ds_)
  (h:yT!):wpAny e! A ym_ Q E s:=by
 obtain⟨es,B,J,h3,h4,h5,h6⟩:=eI I m sub e;have ar:=LN J.1;refine d1h hu h3 h6 hr_ fs! λh' tk D' hs=>?_;have ow:=J.put (x:=x) hk r rv;have wy:Xm (Lz fp_ k) ep=Fx kvs d ep:=by
  unfold Fx;obtain⟨i1,i2,i3,i4⟩|⟨j,y,e',i1,i2,i3,i4,i5,i6,i7⟩:=J.look hk
  .rw[i1,i2];simp[Xm]
  .rw[i1,i4];simp[Xm]
 rw[wy]at D';have jq:=LN ow.1;have:=kput_len kvs d x;exact h _ _ (a3t I B D' hs h4 a!) ⟨_,bR,ow⟩
def b0b{Q:n_}(hu:eg_)(I:c!)(m:bW_)(sub:L!)(e:cj!)(r:bV_)(hk:bm!)(hx:yU!)
  (h:∀o s',Inv X O Z H s'->Cu X.K G x o->Q o s'):wpAny e! A (getItem S_ u) Q E s:=by
 obtain⟨es,B,J,h3,h4,h5,h6⟩:=eI I m sub e;have hT:=fs_;unfold getItem;refine IT (GM (wpAny_sequenceKey hT d! (GM (JF (name:=tN_) hT PySem.slot_dict_getitem (IP PySem.slot_dict_getitem hT PySem.entry_dict_getitem ?_ (PySem.args_dict_getitem _ _))))));show wpAny e! A.in1 kM_ _ _ s;refine GM kN!;rw[hx]at ho;cases o with
 |none=>exact ho.elim
 |some o=>exact GO ⟨o,rfl,GO (h o s' I' ho)⟩
def sR{Q:dq!}(hu:eg_)(I:c!)(m:bW_)(sub:L!)(e:cj!)(r:bV_)(hk:bm!)
  (h:∀s',Inv X O Z H s'->Q (ds!).isSome s'):wpAny e! A (contains S_ u) Q E s:=by
 obtain⟨es,B,J,h3,h4,h5,h6⟩:=eI I m sub e;have hT:=fs_;unfold contains;refine IT (GM (OI hT OK.lookup ?_));rw[GS (by rw[beq_builtin_none];exact HM)];refine GM (wpAny_callSpecialUnlessNone?_slot (name:=Str.ofString "__contains__") hT OK (IP OK hT PySem.entry_dict_contains ?_ (PySem.args_dict_contains _ _)));show wpAny e! A.in1 kM_ _ _ s;refine GM kN!;cases o with
 |none=>
  have hn:kget kvs d=none:=by
   cases q:kget kvs d with
   |none=>rfl
   |some y=>rw[q]at ho;exact ho.elim
  have h:=h s' I';rw[hn]at h;exact GM (wpAny_pendingKey_other h4 (GO yV_))
 |some o=>
  have hn:(ds!).isSome=true:=by
   cases q:kget kvs d with
   |none=>rw[q]at ho;exact ho.elim
   |some y=>rfl
  have h:=h s' I';rw[hn]at h;exact GO yV_
def b0a{Q:cS_}(hu:eg_)(I:c!)(m:bW_)(sub:L!)(e:cj!)(r:bV_)(hk:bm!)(rv:kL_)(hl:ds_)
  (h:yT!):wpAny e! A (setItem S_ u v) Q E s:=by
 obtain⟨es,B,J,h3,h4,h5,h6⟩:=eI I m sub e;have hT:=fs_;unfold setItem;refine IT (GM (wpAny_sequenceKey hT d! (GM (JF (name:=Str.ofString "__setitem__") hT PySem.slot_dict_setitem (IP PySem.slot_dict_setitem hT PySem.entry_dict_setitem ?_ (PySem.args_dict_setitem _ _ _))))));refine GM (NW hT ?_);show wpAny e! A.in1 (dictSet a u v>>=_) _ _ s;exact GM (c0m (A:=A.in1) hu I m sub e r hk rv hl λa7 s' I' c'=>GO ⟨.none,rfl,GO (h a7 s' I' c')⟩)
def c4r{Q:n_}(hu:eg_)(I:c!)(m:bW_)(sub:L!)(e:cj!)(r:bV_)(hk:bm!)
  (h:∀o s',Inv X O Z H s'->Cu X.K G ((ds!).getD .non) o->Q o s'):wpAny e! A (call yW! [b6_,u]) Q E s:=by
 obtain⟨es,B,J,h3,h4,h5,h6⟩:=eI I m sub e;refine IP NS h3.typeIs PySem.F.entry_dict_get ?_ (PySem.F.args_dict_get_2 _ _);show wpAny e! A.in1 kM_ _ _ s;refine GM kN!;cases q:kget kvs d with
 |none=>
  rw[q]at ho;cases o with
  |none=>
   have h:=h .none s' I';rw[q]at h;exact GM (wpAny_missed_other h4 (GO ⟨.none,rfl,h ⟨V.non,Ar.non,rfl⟩⟩))
  |some o=>exact ho.elim
 |some y=>
  rw[q]at ho;cases o with
  |none=>exact ho.elim
  |some o=>
   have h:=h o s' I';rw[q]at h;exact GO yW_
def c4q{Q:n_}(hu:eg_)(I:c!)(m:bW_)(sub:L!)(e:cj!)(r:bV_)(hk:bm!)(rv:kL_)
  (h:∀o s',Inv X O Z H s'->Cu X.K G ((ds!).getD x) o->Q o s'):wpAny e! A (call yW! [b6_,u,v]) Q E s:=by
 obtain⟨es,B,J,h3,h4,h5,h6⟩:=eI I m sub e;refine IP NS h3.typeIs PySem.F.entry_dict_get ?_ (PySem.F.args_dict_get_3 _ _ _);show wpAny e! A.in1 kM_ _ _ s;refine GM kN!;cases q:kget kvs d with
 |none=>
  rw[q]at ho;cases o with
  |none=>
   have h:=h v s' I';rw[q]at h;exact GM (wpAny_missed_other h4 (GO ⟨v,rfl,h rv⟩))
  |some o=>exact ho.elim
 |some y=>
  rw[q]at ho;cases o with
  |none=>exact ho.elim
  |some o=>
   have h:=h o s' I';rw[q]at h;exact GO yW_
def yD{Q:n_}(hu:eg_)(I:c!)(m:bW_)(sub:L!)(e:cj!)(r:bV_)(hk:bm!)(rv:kL_)(hl:ds_)
  (hs:∀y o s',kget kvs d=some y->Inv X O Z H s'->Cu X.K G y o->Q o s')
  (hn:kget kvs d=none->∀a7 s',Inv X O Z kQ! s'->Gq X.prog X.w X.K G kQ! a (.dct pk! a8!)->Q v s'):wpAny e! A (call (.builtin "dict.setdefault") [b6_,u,v]) Q E s:=by
 obtain⟨es,B,J,h3,h4,h5,h6⟩:=eI I m sub e;have ar:=LN J.1;have hT:=fs_;refine IP QT hT PySem.F.entry_dict_setdefault ?_ (PySem.F.args_dict_setdefault_3 _ _ _);unfold Builtin.«dict.setdefault» yZ!;refine GM px_;dsimp only;rw[GS (by rw[h4];exact HM)];obtain⟨i1,i2,i3,i4⟩|⟨j,y,e',i1,i2,i3,i4,i5,i6,i7⟩:=J.look hk
 .refine GM (pV (A:=A.in1) hu h3 h6 hr_ fs! (λj e tk q=>by rw[i1]at q;cases q) λh' tk _ D' cn=>GO ⟨_,rfl,hn i2 _ _ y0_ ⟨_,bR,?_⟩⟩)
  .rw[HE,IZ];omega
  .have:=J.put (x:=x) hk r rv;rw[i1]at this;show"#;"
 .exact GM (pV (A:=A.in1) hu h3 h6 hr_ fs! (λj' e tk q q2=>by
   rw[i1]at q;cases q;rw[i3]at q2;cases q2;exact GO ⟨_,rfl,hs y _ _ i4 iQ! i5⟩) λh' tk q=>by rw[i1]at q;cases q)
def c8y{Q:n_}(hu:eg_)(I:c!)(m:bW_)(sub:L!)(e:cj!)(r:bV_)(hk:bm!)(hx:yU!)
  (h:∀a7 o s',Inv X O Z kQ! s'->Gq X.prog X.w X.K G kQ! a (.dct (Ge kvs d) a8!)->Cu X.K G x o->Q o s'):wpAny e! A (call (.builtin "dict.pop") [b6_,u]) Q E s:=by
 obtain⟨es,B,J,h3,h4,h5,h6⟩:=eI I m sub e;have hT:=fs_;obtain⟨i1,i2,i3,i4⟩|⟨j,y,e',i1,i2,i3,i4,i5,i6,i7⟩:=J.look hk
 .rw[i2]at hx;cases hx
 .rw[i4]at hx;cases hx;refine IP PySem.F.slot_dict_pop hT PySem.F.entry_dict_pop ?_ (PySem.F.args_dict_pop_2 _ _);unfold Builtin.«dict.pop» yZ!;refine GM px_;dsimp only;have fin:wpAny e! A.in1 yq! (λold s'=>∃e o,old=some e/\e.val=o/\Q o s') E s:=by
   refine c8m (A:=A.in1) hu h3 h6 hr_ fs! i1 i3 λh' tk D' cn=>⟨e',_,rfl,rfl,h _ _ _ y0_ ⟨_,bR,?_⟩ i5⟩
   .exact IE (List.length_eraseIdx_le _ _) h5
   .rw[i7];exact J.del
  obtain⟨o,ho,_,hd⟩:=id h3;have hne:es.toArray.isEmpty=false:=by
   cases es with
   |nil=>simp at i3
   |cons _ _=>rfl
  by_cases hp:(keyPart u).isSome=true
  .rw[HB hp];refine GM X!;rw[GS HM];refine GM y1_;subst q1 q2;exact GM y2_
  .rw[GS hp];refine GM (KG ho hd (GM X!));rw[hne,GS HM];refine GM y1_;subst q1 q2;exact GM y2_
end
section
variable{X:Cx}{O:List (Addr×Obj)}{Z:St}{H:Hp}{s:z2!}
def a5a{ds es:a_}{A:xX!}(I:c!)(qa:kb!)(qb:Gd X.K H b ws)(rd:g2_)(re:g3!)(hu:aq!)
  (h:kd!):SeqAt.RcNeAt A s S_ dP_ (!Ih ds es):=by
 obtain⟨us,rv,p1,_⟩:=I.tuple qa;obtain⟨us',au,p2,_⟩:=I.tuple qb;have B:=aJ rd;have J:=aJ re;have h3:=eF!;have h4:=kd_;have z:=SeqAt.RcNeAt.tuples (A:=A) (e:=ke!) p1 p2 hu ke_;have e:wW_=Ih ds es:=by
  show"#4"
  .rw[hl,Nat.min_self,<-hl,kf!,hl];simp
  .rw[kf_];have:(f_==U_)=false:=by simpa using hl
   rw[this,PY]
 rw[e]at z;exact z
def a8n{ds es:a_}{A:xX!}(I:c!)(qa:oK!)(qb:Ff X.K H b ws)(rd:g2_)(re:g3!)(hu:aq!)
  (h:kd!):SeqAt.RcNeAt A s S_ dP_ (!Ih ds es):=by
 show"!@";have h4:=kd_;by_cases hl:f_=U_
 .have z:=SeqAt.RcNeAt.lists (A:=A) (e:=ke!) p1.isList p2.isList n9_ hu ke_;rw[GW,<-h3,<-B,kf!]at z;exact z
 .rw[kf_];exact SeqAt.RcNeAt.lists_lengths p1.isList p2.isList wX! hu
def b6f(I:c!){A:xX!}(n:ce!)(n':ff!)(hu:aq!)(r:d8_)(r':g3_)(ru:bo_)(ay:g4!)(hT:∀xs ys,d=.tup xs->d'=.tup ys->SeqAt.RcNeAt A s u u' kS!)(hL:∀xs ys,d=.lst xs->d'=.lst ys->SeqAt.RcNeAt A s u u' kS!):SeqAt.RcNeAt A s u u' kS!:=by
 show"!l"
 all_goals first|exact hT _ _ rfl rfl|exact hL _ _ rfl rfl|(unfold Dy;(try simp only[OH,KC]);with_reducible first|exact .none_none|exact .same _|exact .none_bool _|exact .none_int _ _|exact .none_str _ _|exact .none_tuple ‹_› hu|exact .none_list ‹_› hu|exact .bool_none _|exact .bool_bool _ _|exact .bool_int _ _ _|exact .bool_str _ _ _|exact .bool_tuple _ ‹_› hu|exact .bool_list _ ‹_› hu|exact .int_none _ _|exact .int_bool _ _ _|exact .int_int _ _ _ _|exact .int_str _ _ _ _|exact .int_tuple _ _ ‹_› hu|exact .int_list _ _ ‹_› hu|exact .str_none _ _|exact .str_bool _ _ _|exact .str_int _ _ _ _|exact .str_str _ _ _ _|exact .str_tuple _ _ ‹_› hu|exact .str_list _ _ ‹_› hu|exact .tuple_none ‹_› hu|exact .tuple_bool _ ‹_› hu|exact .tuple_int _ _ ‹_› hu|exact .tuple_str _ _ ‹_› hu|exact .tuple_list ‹_› ‹_› hu|exact .list_none ‹_› hu|exact .list_bool _ ‹_› hu|exact .list_int _ _ ‹_› hu|exact .list_str _ _ ‹_› hu|exact .list_tuple ‹_› ‹_› hu)
def b6g(I:c!)(d d':D){A:xX!}(n:ce!)(n':ff!)(hu:wY_)(r:d8_)(r':g3_)(ru:bo_)(ay:g4!):SeqAt.RcNeAt A s u u' kS!:=
 b6f I n n' a! r r' ru ay (λxs ys e e'=>by
  subst e e';obtain⟨a,vs,rfl,q,rr⟩:=bO r;obtain⟨b,ws,rfl,q',b7⟩:=bO r';cases ru;cases ay;unfold Bd at n n';unfold Gs at hu;unfold Dy;exact a5a I q q' rr b7 a! λus us' rv au=>kQ I xs ys A.in1 vs ws us us' n n' ff_ rr b7 rv au) (λxs ys e e'=>by
  subst e e';obtain⟨a,vs,rfl,q,rr⟩:=bQ r;obtain⟨b,ws,rfl,q',b7⟩:=bQ r';cases ru;cases ay;unfold Bd at n n';unfold Gs at hu;unfold Dy;exact a8n I q q' rr b7 a! λus us' rv au=>kQ I xs ys A.in1 vs ws us us' n n' ff_ rr b7 rv au)
def Zd(K:z1!):R2:=λx y H Q=>∃dx dy,Ar K H dx x/\Ar K H dy y/\Bd dx=true/\Bd dy=true/\Gs dx<=40/\Q (.bl (!Dy dx dy)) H
def nQ(hu:aE_):Gi X sq! (Zd X.K):=by intro O s Z H x y v u Q I rx ry h;obtain⟨dx,dy,r1,r2,n1,n2,hd,q⟩:=h;exact b6g I dx dy n1 n2 a! r1 r2 rx ry X.prog X.w X.xe _ wZ!
def Fb:D->D->Option D:=λx y=>if Bd x&&Bd y&&decide (Gs x<=40)then some (.bl (!Dy x y))else none
def vG{K:z1!}:Ie K (Zd K) Fb:=by
 show"!0";unfold Fb at e;show"!7"
 .show"!s";cases e;exact wZ_
 .cases e
open Classical in
def Tv(K:z1!)(H:Hp)(x:D)(u:ys!):Bool:=decide (∃d,Cu K H d u/\Bd d=true/\Dy d x=true)
open Classical in
def b9u(I:c!)(r:Cu X.K H d u)(n:ce!):Tv X.K H x u=Dy d x:=by
 unfold Tv;cases h:Dy d x with
 |true=>exact HY ⟨d,r,n,h⟩
 |false=>
  refine HF ?_;rintro⟨d',⟨v',r',ay⟩,n',h'⟩;obtain⟨v,r,ru⟩:=r;have:=ru.inj ay;subst this;rw[a0z I d d' v n n' r r']at h;rw[h]at h';cases h'
def qB(I:c!):∀{ds:a_} {vs:k!} {us:g_},Am X.K H ds vs->Ba vs us->Bx ds=true->us.any (Tv X.K H x)=ds.any λd=>Dy d x
 |[],vs,us,r,rv,_=>by cases cM r;cases rv;rfl
 |d::ds,vs,us,r,rv,n=>by
  obtain⟨v,t,rfl,r1,r2⟩:=bJ r;unfold Bx at n;rw[HZ]at n;cases rv with
  |cons qu ug=>rw[LH,LH,b9u I ⟨v,r1,qu⟩ n.1,qB I r2 ug n.2]
def pA(I:c!){A:xX!}(rx:Ar X.K H x y)(ry:Bp y v)(nx:Bd x=true):∀{ds:a_} {vs:k!} {us:g_},Am X.K H ds vs->Ba vs us->Bx ds=true->A.units+Dq ds<cLine->∀u∈us,SeqAt.EqAt A s u v (Tv X.K H x u)
 |[],vs,us,r,rv,_,_=>λu hu=>by cases cM r;cases rv;cases hu
 |d::ds,vs,us,r,rv,n,hd=>λu hu=>by
  obtain⟨z,t,rfl,r1,r2⟩:=bJ r;unfold Bx at n;rw[HZ]at n;unfold Dq at hd;cases rv with
  |cons qu ug=>
   obtain rfl|hu:=GR.mp hu
   .rw[b9u I ⟨z,r1,qu⟩ n.1];exact b9x I d x A z y _ _ n.1 nx a! r1 rx qu ry
   .exact pA I rx ry nx r2 ug n.2 a! u hu
def Ze(K:z1!)(neg:Bool):R2:=λx y H Q=>∃p ys dx ds,y=.ref p/\y4_/\Ar K H dx x/\Am K H ds ys/\Bd dx=true/\Bx ds=true/\Dq ds<=40/\Q (.bl (if neg then !(ds.any λd=>Dy d dx)else ds.any λd=>Dy d dx)) H
def c6y(hu:aE_):Gi X jg! (Ze X.K false):=by
 intro O s Z H x y v u Q I rx ry h;obtain⟨p,ys,dx,ds,rfl,hq,r1,r2,n1,n2,hd,q⟩:=h;cases ry;obtain hq|hq:=hq
 .show"!?";refine SeqAt.in_listAt fu_ pl.isList kT! c8_;rw[kT_,kU!];exact q
 .show"!M";refine SeqAt.in_tupleAt fu_ pl kT! c8_;rw[kT_,kU!];exact q
def b3t(hu:aE_):Gi X jh_ (Ze X.K true):=by
 intro O s Z H x y v u Q I rx ry h;obtain⟨p,ys,dx,ds,rfl,hq,r1,r2,n1,n2,hd,q⟩:=h;cases ry;obtain hq|hq:=hq
 .show"!?";refine SeqAt.notIn_listAt fu_ pl.isList kT! c8_;rw[kT_,kU!];exact q
 .show"!M";refine SeqAt.notIn_tupleAt fu_ pl kT! c8_;rw[kT_,kU!];exact q
def Zf(P:z3!)(w:yt!)(K:z1!)(neg:Bool):R2:=λx y H Q=>∃(M:Mh) (G:Hp) (a:xK!) (kvs:g!) (ep:Nat) (d:D) (k:MK),y=.ref a/\Bf G H/\MR P w K M G H/\M a=some hr!/\Ar K G d x/\Dk d=some k/\Q (.bl (if neg then !(ds!).isSome else(ds!).isSome)) H
def c6z(hu:aE_):Gi X jg! (Zf X.prog X.w X.K false):=by intro O s Z H x y v u Q I rx ry h;obtain⟨M,G,a,kvs,ep,d,k,rfl,sub,m,e,r,hk,q⟩:=h;cases ry;exact GM y5!
def b3u(hu:aE_):Gi X jh_ (Zf X.prog X.w X.K true):=by intro O s Z H x y v u Q I rx ry h;obtain⟨M,G,a,kvs,ep,d,k,rfl,sub,m,e,r,hk,q⟩:=h;cases ry;exact GM y5!
def Xg(P:z3!)(w:yt!)(K:z1!)(neg:Bool):R2:=λx y H Q=>Ze K neg x y H Q\/Zf P w K neg x y H Q
def fS(hu:aE_):Gi X jg! (Xg X.prog X.w X.K false):=(c6y hu).or (c6z hu)
def qS(hu:aE_):Gi X jh_ (Xg X.prog X.w X.K true):=(b3t hu).or (b3u hu)
def Rs(M:Mh):D->Option aL!
 |.lst xs=>some xs
 |.tup xs=>some xs
 |.fn a=>match M a with|some (.lst xs)=>some xs|_=>none
 |_=>none
def b0u{K:z1!}{M:Mh}{G H:Hp}(sub:L!)(m:ch!)(r:cz!)(e:Rs M d=some xs):∃p ys,v=.ref p/\y4_/\Am K G xs ys:=by
 cases d<;>first|(cases e;done)|skip
 .cases e;show"!Z";exact⟨p,vs,rfl,.inr kg_,rr⟩
 .cases e;obtain⟨p,vs,rfl,q,rr⟩:=bQ r;exact⟨p,vs,rfl,.inl (sub.seq q),rr⟩
 .rename_i a;cases fP r;simp only[Rs]at e;show"!7"
  .rename_i ys hy;cases e;obtain⟨_,vs,B,J⟩:=m.cell a _ hy;exact⟨a,vs,rfl,.inl (Ff.of B),J⟩
  .cases e
def Hl(neg:Bool)(M:Mh)(x y:D):Option D:=match y with
 |.fn a=>match M a with
  |some (.dct kvs _)=>(Dk x).bind λ_=>some (.bl (if neg then !(kget kvs x).isSome else(kget kvs x).isSome))
  |_=>inS M x y
 |_=>inS M x y
where inS (M:Mh) (x y:D):Option D:=(Rs M y).bind λds=>if Bd x&&Bx ds&&decide (Dq ds<=40)then some w3! else none
def eM{K:z1!}{neg:Bool}:Wx P w K (Xg P w K neg) (Hl neg):=by
 intro x y dx dy d M G H Q sub m rx ry e k;have seq:Hl.inS neg M dx dy=some d->Xg P w K neg x y H Q:=λe=>by
  obtain⟨ds,e1,e2⟩:=GN.mp e;split at e2
  .show"!s";cases e2;obtain⟨p,ys,rfl,q,rr⟩:=b0u sub m ry e1;exact .inl ⟨p,ys,dx,ds,rfl,q,rx.mono sub,rr.mono sub,h.1.1,h.1.2,h.2,d4_⟩
  .cases e2
 unfold Hl at e;show"!7"
 .rename_i a;show"!7"
  .show"#7";cases e2;cases fP ry;exact .inr ⟨M,G,a,kvs,ep,dx,kk,rfl,sub,m,hM,rx,e1,d4_⟩
  .exact seq e
 .exact seq e
def AX(P:z3!)(w:yt!)(K:z1!):R2:=λx y H Q=>∃(M:Mh) (G:Hp) (a:xK!) (kvs:g!) (ep:Nat) (d z:D) (k:MK),x=.ref a/\Bf G H/\MR P w K M G H/\M a=some hr!/\Ar K G d y/\Dk d=some k/\kget kvs d=some z/\∀v,Ar K G z v->Q v H
def c8d(hu:aE_):Vn X (AX X.prog X.w X.K):=by
 intro value gf O s Z H x y v u Q I rx ry h hs;obtain⟨M,G,a,kvs,ep,d,z,k,rfl,sub,m,e,r,hk,hz,q⟩:=h;cases rx;obtain⟨es,B,J,h3,h4,h5,h6⟩:=eI I m sub e;unfold subscriptTail;refine GM ?_;rw[getitemInPython_of_ne h3.typeIs.not_modules];refine GM (OI h3.typeIs PySem.F.slot_dict_getitem.lookup ?_);have fin:wpAny e! X.A (subscripted gf false S_ u) (λr c9=>wpAny e! X.A (letTemporaryGo value S_ r>>=λ_=>pure r) aG! X.xe c9) X.xe s:=by
  rw[hs];exact wpAny_operating (b0b (A:=X.A) a! I m sub e ⟨_,r,ry⟩ hk hz λo s' I' ⟨v',r',ay⟩=>GM (wpAny_letTemporaryGo (GO ⟨v',H,I',ay,q v' r'⟩)))
 first
  |exact GO jn_
  |exact GM (GO jn_)
  |exact GM fin
def AY(P:z3!)(w:yt!)(K:z1!):R2:=λx y H Q=>EE K x y H Q\/AX P w K x y H Q
def bM(hu:aE_):Vn X (AY X.prog X.w X.K):=aH.or (c8d hu)
def Co(M:Mh)(x y:D):Option D:=match x with
 |.fn a=>match M a with
  |some (.dct kvs _)=>(fv!).bind λ_=>kget kvs y
  |some (.lst xs)=>match y with|.int i=>Da xs i|_=>none
  |_=>none
 |_=>Ai x y
def bL{K:z1!}:Wx P w K (AY P w K) Co:=by
 show"!a";unfold Co at e;show"!7"
 .rename_i a;cases fP rx;show"!7"
  .show"#7";exact .inr ⟨M,G,a,kvs,ep,dy,d,kk,rfl,sub,m,hM,ry,e1,e2,λv r=>k v G H aC_ r⟩
  .rename_i xs hM;show"!7"
   .rename_i i;cases bA ry;show"!z";obtain⟨v,e6,r6⟩:=oK J e;exact .inl (.inl ⟨a,vs,i,v,rfl,rfl,Ff.of B,e6,k v G H aC_ r6⟩)
   .cases e
  .cases e
 .exact .inl (aL sub rx ry e k)
def Jt(M:Mh)(x y:D):Option D:=match x with
 |.fn a=>match M a,y with
  |some (.lst xs),.lst ys=>if i!+X_<=big then some (.lst eq!)else none
  |_,_=>none
 |_=>Al x y
def mP{K:z1!}:Wx P w K (Rv K) Jt:=by
 show"!a";unfold Jt at e;show"!7"
 .rename_i a;cases fP rx;show"!7"
  .rename_i xs ys hM;show"!7"
   .show"!F";show"!z";obtain⟨b,ws,rfl,qb,rb⟩:=bQ ry;exact .inr (.inr (.inr (.inr ⟨a,b,vs,ws,rfl,rfl,Ff.of B,sub.seq qb,by rw[<-aJ J,<-aJ rb];exact cP hl,λp hp=>k _ _ _ jW_ (dX gS! (cW J rb))⟩)))
   .cases e
  .cases e
 .exact bE sub rx ry e k
end
def El{α:Type}(o:Option α)(R:pB!):Prop:=match o with|some a=>R a|none=>False
def cS{α:Type}{o:Option α}{R:pB!}(h:El o R):∃a,o=some a/\R a:=by
 cases o with
 |none=>exact h.elim
 |some a=>exact⟨a,rfl,h⟩
def Ic(C:xK!)(x:Str)(M:Mh)(d:D):Option D:=match d with
 |.fn a=>match M a with
  |some (.obj C' fs)=>if C'=C then fs.lookup x else none
  |_=>none
 |_=>none
def Bo(f:Str)(v:D):List cf!->List cf!
 |[]=>[(f,v)]
 |(g,x)::r=>if g=f then(g,v)::r else(g,x)::Bo f v r
def a6z{K:z1!}{G:Hp}{x:Str}:∀{fs:aN_} {vs:eq_},Nu K G fs vs->fs.lookup x=some d->∃v,vs.lookup x=some v/\Ar K G d v
 |_,_,.nil,e=>by simp at e
 |(a,b)::r,(a',b')::r',.cons ⟨B,J⟩ t,e=>by
  have B:a=a':=B;subst B;cases hx:(x==a)with
  |true=>
   simp only[IQ,hx]at e ⊢;cases e;exact⟨b',rfl,J⟩
  |false=>
   simp only[IQ,hx]at e ⊢;exact a6z t e
def a6y{K:z1!}{G:Hp}{x:Str}:∀{fs:aN_} {vs:eq_},Nu K G fs vs->fs.lookup x=none->vs.lookup x=none
 |_,_,.nil,_=>rfl
 |(a,b)::r,(a',b')::r',.cons ⟨B,J⟩ t,e=>by
  have B:a=a':=B;subst B;cases hx:(x==a)with
  |true=>simp only[IQ,hx]at e;cases e
  |false=>
   simp only[IQ,hx]at e ⊢;exact a6y t e
def b2h{K:z1!}{G:Hp}{x:Str}(r:cz!):∀{fs:aN_} {vs:eq_},Nu K G fs vs->Nu K G (Bo x d fs) (Kj x v vs)
 |_,_,.nil=>.cons ⟨rfl,r⟩ .nil
 |(a,b)::fs,(a',b')::vs,.cons ⟨B,J⟩ t=>by
  have B:a=a':=B;subst B;show Nu K G (if a=x then(a,d)::fs else Z_::Bo x d fs) (if a=x then(a,v)::vs else(a,b')::Kj x v vs);by_cases e:a=x
  .rw[HB e,HB e];exact .cons ⟨rfl,r⟩ t
  .rw[GS e,GS e];exact .cons ⟨rfl,J⟩ (b2h r t)
section
variable{X:Cx}{own:List Nat}{e o a b:Expr}{es:List Expr}{pos aj ag p:Pos}{f fa fb fo:WE}{fs:WA}{x m:Str}{C:xK!}
def Aw(C:xK!)(x:Str)(f:WE):WE:=λρ M R=>f ρ M λd M1=>El (Ic C x M1 d) λv=>R v M1
def bG(c:dK!)(n:Ed X.K C x)(h:bH!)(Y:attributeBase e x X.env ez!=eval e X.env:=by rfl):ME X own (.Attribute e x pos) (Aw C x f):=
 eS (c6s h.ok Y) λZ G H Q ρ M R st e k=>⟨G,ρ,M,_,st,e,λd M1 v G1 H1 r1 x1 m1 q1=>by
  obtain⟨z,B,J⟩:=cS r1;cases d<;>first|(cases B;done)|skip
  rename_i ad;cases fP q1;simp only[Ic]at B;split at B
  .rename_i C' fs hM;split at B
   .rename_i hC;subst hC;obtain⟨_,dx,vs,h3,h4⟩:=m1.cell ad _ hM;obtain⟨u,h5,h6⟩:=a6z h4 B;exact⟨ad,_,dx,vs,u,rfl,h3,c,n,h5,k z M1 u G1 H1 J x1 m1 h6⟩
   .cases B
  .cases B⟩
def Qv(P:z3!)(w:yt!)(K:z1!)(r:cZ!)(g:ht_):Prop:=∀{vs:k!} {ds:a_} {d:D} {M:Mh} {G H:Hp} {Q:VK},Bf G H->MR P w K M G H->Am K G ds vs->g M ds=some d->jR!->r vs H Q
def Ow.toM{K:z1!}{r:cZ!}{g:ac_}(h:Ow K r g):Qv P w K r pq_:=λs _ r e k=>h s r e k
nonrec def w1(g:ht_)(fs:WA):WE:=λρ M R=>fs ρ M λds M1=>El (g M1 ds) λd=>R d M1
def jN{id:String}{r:cZ!}{g:ht_}(hc:nc_)(hd:y6_)(hg:M_)(hm:cV!)(hv:nd!)(ha:fv_)(hn:cV_:=by decide)
  (av:B_:=by decide)(he:am!:=by rfl)(ax:aQ!:=by rfl):ME X own be_ (w1 g fs):=
 eS v9! λZ G H Q ρ M R st e' k=>⟨G,ρ,M,_,st,e',λds M1 vs G1 H1 r1 x1 m1 q1=>by
  obtain⟨d,B,J⟩:=cS r1;exact hd x1.sub m1 q1 B λv G2 H2 x2 q2=>k d M1 v G2 H2 J y7! (m1.ext x2) q2⟩
def b4l{T:String}{r:cZ!}{g:ht_}(hc:Ip X dP! r)(hd:y6_)(hg:M_)(hm:cV!)(hv:nd_)(ha:fv_)(hn:cV_:=by decide)
  (av:B_:=by decide)(he:am!:=by rfl)(ax:aQ!:=by rfl):ME X own be_ (w1 g fs):=
 eS (b3s hc hg hm hv ha.ok hn av he ax) λZ G H Q ρ M R st e' k=>⟨G,ρ,M,_,st,e',λds M1 vs G1 H1 r1 x1 m1 q1=>by
  obtain⟨d,B,J⟩:=cS r1;exact hd x1.sub m1 q1 B λv G2 H2 x2 q2=>k d M1 v G2 H2 J y7! (m1.ext x2) q2⟩
def Pb(M:Mh):List D->Option D
 |[.str x]=>Bk [.str x]
 |[d]=>(Rs M d).map λxs=>.int i!
 |_=>none
def b0c{K:z1!}:Qv P w K wo! Pb:=by
 show"!V";unfold Pb at e;show"!7"
 .exact eG sub r e k
 .obtain⟨xs,e1,rfl⟩:=GU.mp e;obtain⟨v,rfl,r1⟩:=eZ r;obtain⟨p,ys,rfl,q,rr⟩:=b0u sub m r1 e1;refine⟨fe_,i!,rfl,?_,dZ_⟩;rw[aJ rr];exact q.elim (λz=>.inl y7_) λz=>.inr y7_
 .cases e
def Ix(fs:WA):WE:=λρ M R=>fs ρ M λds M1=>f_<=1000/\∀p,M1 p=none->R C_ (Az M1 p cy!)
def tU(h:kJ!):ME X own m1_ (Ix fs):=
 eS n7_ λZ G H Q ρ M R st e k=>⟨G,ρ,M,_,st,e,λds M1 vs G1 H1 r1 x1 m1 q1=>⟨by rw[<-aJ q1];exact gN r1.1,λp hp=>
  k _ _ _ _ _ (r1.2 p (m1.nocell hp)) (x1.trans (.laid x1.sub hp) m1) (m1.laid hp x1.sub ⟨vs,bR,q1⟩) Ar.fn⟩⟩
def Im(M:Mh)(d:D):Option (Addr×List D):=match d with
 |.fn p=>match M p with|some (.lst xs)=>some (p,xs)|_=>none
 |_=>none
def pZ{K:z1!}{M:Mh}{G H:Hp}{q:Addr×List D}(m:ch!)(r:cz!)(e:Im M d=some q):d=.fn q.1/\v=.ref q.1/\M q.1=some (.lst q.2)/\∃vs,H q.1=some dg_/\Am K G q.2 vs:=by
 cases d<;>first|(cases e;done)|skip
 rename_i p;cases fP r;simp only[Im]at e;show"!7"
 .rename_i xs hM;cases e;exact⟨rfl,rfl,hM,(m.cell p _ hM).2⟩
 .cases e
def Dl(M:Mh)(d:D):Option (Addr×List ax_×Nat):=match d with
 |.fn p=>match M p with|some (.dct kvs ep)=>some kV!|_=>none
 |_=>none
def cO{K:z1!}{M:Mh}{G:Hp}{q:y8!}(r:cz!)(e:Dl M d=some q):d=.fn q.1/\v=.ref q.1/\M q.1=some pC!:=by
 cases d<;>first|(cases e;done)|skip
 rename_i p;cases fP r;simp only[Dl]at e;show"!7"
 .rename_i xs ep hM;cases e;exact⟨rfl,rfl,hM⟩
 .cases e
def Mx(fo fa:WE):WE:=λρ M R=>fo ρ M λd M1=>El pC_ λ_=>fa ρ M1 λv M2=>El (Im M2 d) λq=>kV_<big/\R .non y8_
def a1t(ho:cj_)(ha:ay!)(hst:om!:=by rfl)(iy:((xe!).all c9_&&(da!).all da_
   &&decide xe_)=true:=by rfl) (fg:c9!:=by rfl)
  (ez:attributeBase o "append" X.env cW!=eval o X.env:=by rfl) (iz:j9!:=by rfl):ME X own (.Call (.Attribute o "append" aj) [a] [] ag) (Mx fo fa):=
 eS (a5k LQ PySem.F.slot_list_append PySem.F.type_list_append zE ho.ok (dD ha.ok fR hst) ez iy fg hst iz) λZ G H Q ρ M R st e k=>
  ⟨G,ρ,M,_,st,e,λd M1 v G1 H1 r1 x1 m1 q1=>by
   obtain⟨c1,e1,r1⟩:=cS r1;obtain⟨rfl,rfl,_,ZE,hH,_⟩:=pZ m1 q1 e1;refine⟨.inl ⟨rfl,ZE,Ff.of hH⟩,G1,ρ,M1,_,kK!,r1,λz M2 u G2 H2 r2 x2 m2 q2=>?_⟩;obtain⟨⟨p2,xs2⟩,e2,r2⟩:=cS r2;obtain⟨z1,z2,z3,vs,B,J⟩:=pZ m2 ci! e2;cases z2;refine⟨_,vs,u,rfl,rfl,B,by rw[<-aJ J];exact HP r2.1 (cP x_),?_⟩;exact k _ _ _ _ _ r2.2 ((cJ_).trans (.write m2 x2.sub z3) m2) (m2.write z3 ⟨_,bR,cW J (Am.cons q2 Am.nil)⟩) Ar.non⟩
def kS{O:j!}{Z:St}{G H:Hp}{s:z2!}{M:Mh}{q:y8!}(I:c!)(m:bW_)(sub:L!)(e:M q.1=some pC!):
  s.TypeIs (.ref q.1) "dict"/\∀b,Value.ref q.1=.ref b->∃ob,s.heap.get? b=some ob/\ob.dict=none:=by
 obtain⟨es,_,_,h3,_⟩:=eI I m sub e;refine⟨fs_,λb z=>?_⟩;cases z;obtain⟨o,h,hc,_⟩:=h3;exact⟨o,h,hc.2.1⟩
def ME.run{O:j!}{Z:St}{G H:Hp}{ρ:Ad}{M:Mh}{R:u_}{Q:n_}(h:bH!)(I:c!)(st:yF_)(hf:hm_)
  (k:∀d M' v G' H' u s',R d M'->XM M G H M' G' H'->MR X.prog X.w X.K M' G' H'->Ar X.K G' d v->Inv X O Z H' s'->Bp v u->Q u s'):wpAny e! X.A ez! Q X.xe s:=
 dA (h.ok O s Z H (λv H'=>∃d M' G',R d M'/\XM M G H M' G' H'/\MR X.prog X.w X.K M' G' H'/\Ar X.K G' d v) I ⟨G,ρ,M,R,st,hf,λd M' v G' H' r x m q=>⟨d,M',G',r,x,m,q⟩⟩) λu s' ⟨v,H',I',rv,d,M',G',r,x,m,q⟩=>k d M' v G' H' u s' r x m q I' rv
def Ob(fo fa:WE):WE:=λρ M R=>fo ρ M λd M1=>El hu! λ_=>fa ρ M1 λy M2=>El (Dl M2 d) λq=>El fv! λ_=>R ((pD!).getD .non) M2
def b8p(hu:aE_)(ho:cj_)(ha:ay!)(m:M1 X o "get" aj a ag):ME X own (.Call za! [a] [] ag) (Ob fo fa):=⟨by
 intro O s Z H Q I ⟨G,ρ,M,R,st,e,k⟩;refine PF m.base m.few m.line NH NS PySem.F.type_dict_get kW!;obtain⟨c1,e1,r1⟩:=cS r1;obtain⟨rfl,rfl,hM⟩:=cO q1 e1;cases rx;obtain⟨t1,t2⟩:=kS I1 m1 x1.sub hM;refine kW_;rw[m.trees];refine LJ rfl za_;obtain⟨⟨p2,zt,ox⟩,e2,r2⟩:=cS r2;obtain⟨kk,e3,r2⟩:=cS r2;obtain⟨z1,z2,fw⟩:=cO ci! e2;cases z1;exact c4r (A:=X.A) a! I2 m2 x2.sub fw zb! e3 λov s' I' ⟨v',r',ay⟩=>⟨v',H2,I',ay,k _ M2 v' G2 H2 r2 cJ_ m2 r'⟩⟩
def Hg(fo fa fb:WE):WE:=λρ M R=>fo ρ M λd M1=>El hu! λ_=>fa ρ M1 λy M2=>fb ρ M2 λz M3=>El (Dl M3 d) λq=>El fv! λ_=>R ((pD!).getD z) M3
def vP(hu:aE_)(ho:cj_)(ha:ay!)(Y:cK!)(m:M2 X o "get" aj a b ag):ME X own (.Call za! al! [] ag) (Hg fo fa fb):=⟨by
 intro O s Z H Q I ⟨G,ρ,M,R,st,e,k⟩;refine PF m.base m.few m.line NH NS PySem.F.type_dict_get kW!;obtain⟨c1,e1,r1⟩:=cS r1;obtain⟨rfl,rfl,hM⟩:=cO q1 e1;cases rx;obtain⟨t1,t2⟩:=kS I1 m1 x1.sub hM;refine kW_;rw[m.trees];refine LJ rfl (LU (KP (ha.run I1 fw! r1 λy M2 yv G2 H2 iv s2 r2 x2 m2 q2 I2 ry=>
  KP zc!)))
 obtain⟨⟨p2,zt,ox⟩,e2,r3⟩:=cS r3;obtain⟨kk,e3,r3⟩:=cS r3;obtain⟨z1,z2,fw⟩:=cO zc_ e2;cases z1;exact c4q (A:=X.A) a! I3 m3 x3.sub fw zd! e3 zd_ λov s' I' ⟨v',r',ay⟩=>⟨v',H3,I',ay,k _ M3 v' G3 H3 r3 pD_ m3 r'⟩⟩
def Hm(fo fa fb:WE):WE:=λρ M R=>fo ρ M λd M1=>El hu! λ_=>fa ρ M1 λy M2=>fb ρ M2 λz M3=>El (Dl M3 d) λq=>El fv! λ_=>q.2.1.length<big/\
 match kget q.2.1 y with
 |some v=>R v M3
 |none=>R z (Az M3 q.1 (.dct (Aq q.2.1 y z) (q.2.2+1)))
def zF(hu:aE_)(ho:cj_)(ha:ay!)(Y:cK!)(m:M2 X o "setdefault" aj a b ag):ME X own (.Call (.Attribute o "setdefault" aj) al! [] ag) (Hm fo fa fb):=⟨by
 intro O s Z H Q I ⟨G,ρ,M,R,st,e,k⟩;refine PF m.base m.few m.line NH QT PySem.F.type_dict_setdefault kW!;obtain⟨c1,e1,r1⟩:=cS r1;obtain⟨rfl,rfl,hM⟩:=cO q1 e1;cases rx;obtain⟨t1,t2⟩:=kS I1 m1 x1.sub hM;refine kW_;rw[m.trees];refine LJ rfl (LU (KP (ha.run I1 fw! r1 λy M2 yv G2 H2 iv s2 r2 x2 m2 q2 I2 ry=>
  KP zc!)))
 obtain⟨⟨p2,zt,ox⟩,e2,r3⟩:=cS r3;obtain⟨kk,e3,hl,r3⟩:=cS r3;obtain⟨z1,z2,fw⟩:=cO zc_ e2;cases z1;have mj:=(cJ_).trans x3 m2;refine yD (A:=X.A) a! I3 m3 x3.sub fw zd! e3 zd_ hl (λw ov s' hw I' ⟨v',r',ay⟩=>?_) λhn a7 s' I' c'=>?_
 .dsimp only at r3;rw[hw]at r3;exact⟨v',H3,I',ay,k _ M3 v' G3 H3 r3 mj m3 r'⟩
 .dsimp only at r3;rw[hn]at r3;exact⟨zv,_,I',rz,k _ _ zv G3 _ r3 (mj.trans (.write m3 x3.sub fw) m3) (m3.write fw c') q3⟩⟩
def Xb(fo fa:WE):WE:=λρ M R=>fo ρ M λd M1=>El hu! λ_=>fa ρ M1 λy M2=>El (Dl M2 d) λq=>El fv! λ_=>El pD! λv=>R v (Az M2 q.1 (.dct (Ge q.2.1 y) (q.2.2+1)))
def b8n(hu:aE_)(ho:cj_)(ha:ay!)(m:M1 X o "pop" aj a ag):ME X own (.Call ze! [a] [] ag) (Xb fo fa):=⟨by
 intro O s Z H Q I ⟨G,ρ,M,R,st,e,k⟩;refine PF m.base m.few m.line NH PySem.F.slot_dict_pop PySem.F.type_dict_pop kW!;obtain⟨c1,e1,r1⟩:=cS r1;obtain⟨rfl,rfl,hM⟩:=cO q1 e1;cases rx;obtain⟨t1,t2⟩:=kS I1 m1 x1.sub hM;refine kW_;rw[m.trees];refine LJ rfl za_;obtain⟨⟨p2,zt,ox⟩,e2,r2⟩:=cS r2;obtain⟨kk,e3,r2⟩:=cS r2;obtain⟨w,e4,r2⟩:=cS r2;obtain⟨z1,z2,fw⟩:=cO ci! e2;cases z1;exact c8y (A:=X.A) a! I2 m2 x2.sub fw zb! e3 e4 λa7 ov s' I' c' ⟨v',r',ay⟩=>⟨v',_,I',ay,k _ _ v' G2 _ r2 ((cJ_).trans (.write m2 x2.sub fw) m2) (m2.write fw c') r'⟩⟩
def Fg:WE:=λρ M R=>∀p,M p=none->R C_ dt!
def fA:ME X own (.Dict [] [] pos) Fg:=⟨by
 intro O s Z H Q I ⟨G,ρ,M,R,st,e,k⟩;have hp:H k_=none:=I.fresh;have D0:Oa zf_ s.heap.objs.size [] 0:=zg!;refine wpAny_Dict_empty ⟨dR!,upd H s.heap.objs.size zg_,zh_,rfl,?_⟩
 .obtain⟨⟨o,z1,z2,z3⟩,z4⟩:=z;exact pv_
 .exact k _ _ _ G _ (e _ (st.mr.nocell hp)) (.laid st.or.sub hp) (st.mr.laid hp st.or.sub zi!) Ar.fn⟩
end
abbrev WP:=Ad->Mh->(List ax_->Mh->Prop)->Prop
def Yt(K:z1!)(G:Hp):List ax_->List pG!->Prop:=Paired λp q=>Cu K G p.1 q.1/\Cu K G p.2 q.2
structure MP(X:Cx)(own:i_)(pos:Pos)(keys:List (Option Expr))(jr:bK!)(f:WP):Prop where
 ok:∀(O:j!) (s:z2!) (Z:St) (G H:Hp) (ρ:Ad) (M:Mh) (R:zj_) (Q:List pG!->Shared->Prop),Inv X O Z H s->Sh X.prog X.w X.K own G H Z ρ M->f ρ M R->
  (∀kvs M' G' H' us s',R kvs M'->XM M G H M' G' H'->MR X.prog X.w X.K M' G' H'->Yt X.K G' kvs us->Inv X O Z H' s'->Q us s')->wpAny e! X.A (evalPairs (pairTrees keys jr X.env pos)) Q X.xe s
section
variable{X:Cx}{own:List Nat}{e o a b:Expr}{es:List Expr}{pos aj ag p:Pos}{f fa fb fo:WE}{fs:WA}{fp:WP}{keys:List (Option Expr)}{jr:List Expr}
def Mw:WP:=λ_ M R=>R [] M
def Ek(fa fb:WE)(fp:WP):WP:=λρ M R=>fa ρ M λx M1=>fb ρ M1 λy M2=>fp ρ M2 λkvs M3=>R ((x,y)::kvs) M3
def vK:MP X own pos [] [] Mw:=⟨λO s Z G H ρ M R Q I st e k=>pairTrees_nil_walk (k [] M G H [] s e kI_ st.mr .nil I)⟩
def gY(ha:ay!)(Y:cK!)(hp:zk!):MP X own pos (some a::keys) (b::jr) (Ek fa fb fp):=⟨λO s Z G H ρ M R Q I st e k=>
 pairTrees_cons_walk (ha.run I st e λx M1 v G1 H1 u s1 r1 x1 m1 q1 I1 ru=>Y.run I1 fw! r1 λy M2 v2 G2 H2 u2 s2 r2 x2 m2 q2 I2 ZF=>
  hp.ok O s2 Z G2 H2 ρ M2 _ _ I2 zb_ r2 λkvs M3 G3 H3 us s3 r3 x3 m3 q3 I3=>
   k _ M3 G3 H3 _ s3 r3 pD_ m3 (.cons ⟨⟨v,(ci!).mono x3.g,ru⟩,⟨v2,q2.mono x3.g,ZF⟩⟩ q3) I3)⟩
def iK:∀{l:g!} {d x:D},d∉l.map b_->Aq l d x=l++ck!
 |[],_,_,_=>rfl
 |(y,z)::l,d,x,h=>by
  rw[GY,GR,NV]at h;unfold Aq;rw[kX_,iK h.2];rfl
def vZ:∀{l:g!} {d:D},d∉l.map b_->kget l d=none
 |[],_,_=>rfl
 |(y,z)::l,d,h=>by
  rw[GY,GR,NV]at h;unfold kget;rw[kX_,vZ h.2]
def yO{O:j!}{Z:St}{G:Hp}{A:xX!}{E:n_}(hu:aq!):∀{kvs:g!} {us:List pG!} {acc:g!} {H:Hp} {s:z2!} {M:Mh} {n:Nat} {Q:zm!},Yt X.K G kvs us->Inv X O Z H s->MR X.prog X.w X.K M G H->Bf G H->
  M c=some (.dct acc n)->ck_+az!<=1000->(∀p∈kvs,(Dk p.1).isSome=true)->((acc++kvs).map b_).Nodup->
  (∀H' s',Inv X O Z H' s'->XM M G H zm_ G H'->MR X.prog X.w X.K zm_ G H'->Q PUnit.unit s')->
  wpAny e! A (forIn us PUnit.unit λ(x:Value×Value) (_:PUnit)=>(do dictSet c x.1 x.2;pure (ForInStep.yield PUnit.unit):Sem zn_)) Q E s
 |_,_,acc,H,s,M,n,Q,.nil,I,m,sub,hM,hl,hk,nd,k=>by
  rw[NQ];have hc:Az M c (.dct (acc++[]) (n+0))=M:=by
   funext b;unfold Az;split
   .rename_i e;rw[e,HV,hM];rfl
   .rfl
  have k:=k H s I;rw[KD,hc]at k;exact GO (k (.refl sub) m)
 |(d,x)::kvs,(u,v)::us,acc,H,s,M,n,Q,.cons r t,I,m,sub,hM,hl,hk,nd,k=>by
  rw[KY];obtain⟨kk,hd⟩:=OM.mp (hk _ GX);have qo:d∉acc.map b_:=λz=>by
   rw[HU,IG]at nd;exact nd.2.2 d z d c_ rfl
  simp only[HA]at hl;refine GM (GM (c0m hu I m sub hM r.1 hd r.2 (HP a! (show 1001<=big by decide)) λa7 s' I' c'=>GO ?_));have wy:Fx acc d n=n+1:=by unfold Fx;rw[vZ qo];simp
  rw[wy,iK qo]at c';rw[wy]at I';have m':=m.write hM c';have ZG:Bf G (upd H c (dE c a7 bF!)):=(XM.write (c:=.dct (acc++ck!) bF!) m sub hM).sub;refine yO hu t I' m' ZG mup_same kY! (λp hp=>hk p jv!) (by rw[IY];exact nd) λH2 s2 I2 x2 m2=>?_;have hc:Az (Az M c (.dct (acc++ck!) bF!)) c (.dct (acc++ck!++kvs) (n+1+az!))=Az M c (.dct (acc++cg_::kvs) (n+(cg_::kvs).length)):=by
   funext b;unfold Az;split
   .rw[IY,HA];simp only[List.singleton_append];rw[show n+1+kvs.length=n+(kvs.length+1)by omega]
   .rfl
  rw[hc]at x2 m2;exact k H2 s2 I2 ((XM.write m sub hM).trans x2 m') m2
def Ol(fp:WP):WE:=λρ M R=>∀p,M p=none->fp ρ dt! λkvs M1=>M1 p=some E_/\az!<=1000/\(∀q∈kvs,(Dk q.1).isSome=true)/\(fo_).Nodup/\R C_ (Az M1 p (.dct kvs az!))
def pE(hu:aE_)(hp:zk!)(gu:keys.all (·.isSome)=true:=by rfl)(hl:keys.length=jr.length:=by rfl)(h0:keys≠[]:=by simp)(h15:keys.length<=15:=by decide):ME X own (.Dict keys jr pos) (Ol fp):=⟨by
 intro O s Z H Q I ⟨G,ρ,M,R,st,e,k⟩;have hn:=pairTrees_length keys jr X.env pos gu hl;have dw:pairTrees keys jr X.env pos≠[]:=λz=>by rw[z]at hn;exact h0 (NI.mp hn.symm)
 rw[arm_eval_Dict,zip_pairTrees keys jr X.env pos gu hl,dictDisplay_pairs _ dw a!];unfold subDict;have hf:H k_=none:=I.fresh;have D0:Oa zf_ s.heap.objs.size [] 0:=zg!;have I1:Inv X O Z pH! {s with heap:=s.heap.push {cls:=.type "dict",data:=.dict #[]}}:=by
  refine zh_;obtain⟨⟨o,z1,z2,z3⟩,z4⟩:=z;exact pv_
 have x0:XM M G H zs_ G pH!:=.laid st.or.sub hf;have m0:MR X.prog X.w X.K zs_ G pH!:=st.mr.laid hf st.or.sub zi!;refine GM (PQ (GM (GM (wpAny_alloc (GM (IT ?_))))));rw[a8_];refine GM (hp.ok O _ Z G _ ρ _ _ _ I1 (st.grow x0 m0) (e _ (st.mr.nocell hf)) λkvs M1 G1 H1 us s1 r1 x1 m1 q1 I2=>?_);obtain⟨hM1,ar,hk,nd,r1⟩:=r1;refine IT (GM (yO (A:=X.A) (acc:=[]) a! q1 I2 m1 x1.sub hM1 (by simpa using ar) hk nd λH2 s2 I3 x2 m2=>GO (GO (GO ⟨dR!,H2,I3,rfl,?_⟩))));have VA:=(x0.trans x1 m0).trans x2 m1;simp only[JO,NT]at VA m2;exact k _ _ _ G1 H2 r1 VA m2 Ar.fn⟩
end
abbrev WS:=Ad->Mh->(Fl->Mh->Prop)->Prop
structure Io(P:z3!)(w:yt!)(K:z1!)(own:i_)(M0:Mh)(G0 F0:Hp)(M:Mh)(G H:Hp)(Z:St)(ρ:Ad):Prop where
 st:Sh P w K own G H Z ρ M
 x:XM M0 G0 F0 M G H
 fr:∀i∈own,∀p,Z[i]?=some cb_->F0 p=none
inductive Zx(P:z3!)(w:yt!)(K:z1!)(M0:Mh)(G0 F0:Hp)(own σ:i_)(f:WS)(E:Sj)(Z:St)(H:Hp):Prop
 |mk (G:Hp) (ρ:Ad) (M:Mh) (R:p_) (st:bX!) (e:hm_) (a:∀ρ' M' G' h2 H',R cl_ M'->Io P w K σ M0 G0 F0 M' G' H' h2 ρ'->E.nx h2 H') (b:∀d M' v G' H',R a6_ M'->XM M0 G0 F0 M' G' H'->MR P w K M' G' H'->Ar K G' d v->E.rt v H'):Zx P w K M0 G0 F0 own σ f E Z H
structure MS(X:Cx)(own σ:i_)(st:Stmt)(f:WS):Prop where
 ok:∀M0 G0 F0,PS X st zt_
structure Tp(X:Cx)(own σ:i_)(st:bp!)(f:WS):Prop where
 ok:∀M0 G0 F0,Ov X st zt_
section
variable{P:z3!}{w:yt!}{K:z1!}{own σ:List Nat}{M0 M M':Mh}{G0 F0 G H G' H':Hp}{Z h2:St}{ρ ρ':Ad}
def Io.grow(s:bX!)(x:kG_)(m:wF!):Io P w K own M0 G0 F0 M' G' H' Z ρ:=⟨s.st.grow x m,s.x.trans x s.st.mr,s.fr⟩
def Io.set{i:Nat}(s:bX!)(hi:aT!)(r:cz!):Io P w K own M0 G0 F0 M G H ex_ bR_:=by
 have ne:∀j∈own,i≠j:=λj hj z=>hi (z▸hj);refine⟨⟨s.st.or.set hi r,s.st.mr,zu!⟩,s.x,zu!⟩
 .rw[IA (ne j hj)]at e;exact s.st.dj j hj p e
 .rw[IA (ne j hj)]at e;exact s.fr j hj p e
def Fv(own:i_)(Z:St)(H:Hp):Hp:=λb=>if b∈Jb own Z then none else H b
def Io.sr(s:bX!):SR K own G k0_ G H Z ρ:=by
 refine⟨s.st.or,⟨e6!,jL_,s.st.or.sub,dm_⟩,wQ_⟩
 .unfold Fv at e;show"!7"
  .cases e
  .exact e
 .unfold Fv;rw[HB (a4t hi e)]
def Io.root(s:bX!){b:xK!}(h:b∈Jb own Z):M b=none/\F0 b=none:=by obtain⟨i,hi,q⟩:=mU h;exact⟨s.st.dj i hi b q,s.fr i hi b q⟩
def Io.noF(s:bX!){b:xK!}(h:Fv own Z H b=none):F0 b=none:=by
 unfold Fv at h;split at h
 .rename_i Y;exact(k1!).2
 .cases hM:M0 b with
  |none=>exact s.x.free hM h
  |some c=>exact absurd h (s.st.mr.has (s.x.cells b yy_))
def Io.cellF(s:bX!){b:xK!}{c:Nx}(h:M b=some c):Fv own Z H b=H b/\H b≠none:=by refine⟨?_,s.st.mr.has (by rw[h];simp)⟩;unfold Fv;rw[GS (λY=>by rw[(k1!).1]at h;cases h)]
def Io.mr'(s:bX!)(x:zu_):MR P w K M G' H':=⟨λa c e=>by
 obtain⟨B,J⟩:=s.st.mr.cell a c e;obtain⟨e1,e2⟩:=s.cellF e;refine yz_
 .cases q:G' a with
  |none=>rfl
  |some o=>
   rcases x.new a cw! with z|z
   .exact absurd B z
   .rw[e1]at z;exact absurd z e2
 .cases q:H a with
  |none=>exact absurd q e2
  |some o=>exact x.h a o (e1.trans q)⟩
def Io.x'(s:bX!)(x:zu_):XM M0 G0 F0 M G' H':=by
 refine⟨s.x.g.trans x.g,x.sub,bh_,zv!,s.x.dom,s.x.cells⟩
 .obtain z|z:=x.new b h
  .exact s.x.new b z
  .exact pL_
 .have B:=s.x.keep b o e Y;refine x.h b o ?_;unfold Fv;rw[zw!];exact B
def Io.after(s:bX!)(r:SR K σ G k0_ G' H' h2 ρ'):Io P w K σ M0 G0 F0 M G' H' h2 ρ':=
 ⟨⟨r.or,s.mr' r.ext,λi hi p e=>by
  cases q:M p with
  |none=>rfl
  |some c=>
   obtain⟨e1,e2⟩:=s.cellF q;have:=r.fr i hi p e;rw[e1]at this;exact absurd this e2⟩,s.x' r.ext,λi hi p e=>s.noF (r.fr i hi p e)⟩
end
section
variable{X:Cx}{own a8 g7:List Nat}{st:Stmt}{rest body:List Stmt}{e a b c tg o:Expr}{es:List Expr}{pos p2:Pos}{f fa fb fc fo:WE}{fs:WA}{ft fu:WT}{q1 q2 q3:WS}{q:Ad->Option Fl}
def oY{t:TS}(h:ii_)(hw:∀M0 G0 F0 E Z G H ρ M R,Io X.prog X.w X.K own M0 G0 F0 M G H Z ρ->q1 ρ M R->
  (∀ρ' M' G' h2 H',R cl_ M'->Io X.prog X.w X.K a8 M0 G0 F0 M' G' H' h2 ρ'->E.nx h2 H')->(∀d M' v G' H',R a6_ M'->XM M0 G0 F0 M' G' H'->MR X.prog X.w X.K M' G' H'->Ar X.K G' d v->E.rt v H')->t E Z H):MS X own a8 st q1:=
 ⟨λM0 G0 F0 O s Z H E I ⟨G,ρ,M,R,sr,e,k1,k2⟩=>h O s Z H E I (hw M0 G0 F0 E Z G H ρ M R sr e k1 k2)⟩
def Rq(q:aD!):WS:=λρ M R=>El (q ρ) λr=>R r M
def a9f(h:DS X own a8 st q):MS X own a8 st (Rq q):=⟨λM0 G0 F0 O s Z H E I ⟨G,ρ,M,R,sr,e,k1,k2⟩=>by
 obtain⟨r,e1,e2⟩:=cS e;refine h.ok G k0_ O s Z H E I ⟨G,ρ,r,sr.sr,e1,?_⟩;cases r with
 |nx ρ'=>exact λG' h2 H' cr=>k1 ρ' M G' h2 H' e2 (sr.after cr)
 |rt d=>exact λv G' H' x r=>k2 d M v G' H' e2 (sr.x' x) (sr.mr' x) r⟩
def By:WS:=λρ M R=>R ap_ M
def Ah(q1 q2:WS):WS:=λρ M R=>q1 ρ M λr M1=>match r with|.nx al=>q2 al M1 R|.rt d=>R a6_ M1
def bT:Tp X own own [] By:=⟨λM0 G0 F0 O s Z H E I ⟨G,ρ,M,R,sr,e,k1,k2⟩=>b1c O s Z H E I (k1 ρ M G Z H e sr)⟩
def aE(B:pM_)(J:Tp X a8 g7 rest q2):Tp X own g7 ij! (Ah q1 q2):=⟨λM0 G0 F0 O s Z H E I ⟨G,ρ,M,R,sr,e,k1,k2⟩=>
 uX pN! zx! O s Z H E I zx_⟩
def aG(B:pM_):Tp X own a8 [st] q1:=⟨λM0 G0 F0=>oN pN!⟩
def Io.free{P:z3!}{w:yt!}{K:z1!}{M0 M:Mh}{G0 F0 G H:Hp}{Z:St}{ρ:Ad}(s:bX!):Io P w K [] M0 G0 F0 M e6_ H Z ρ:=by
 have o:=s.st.or.full;have sG:Bf G e6_:=λb u e=>by
  unfold Kh;split
  .exact s.st.or.sub b u e
  .exact e
 refine⟨⟨o,⟨λa c e=>?_⟩,an_⟩,⟨s.x.g.trans sG,o.sub,bh_,s.x.keep,s.x.dom,s.x.cells⟩,an_⟩
 .obtain⟨B,J⟩:=s.st.mr.cell a c e;refine⟨?_,J.mono sG rfl⟩;unfold Kh;rw[GS (λY=>by rw[(k1!).1]at e;cases e)];exact B
 .unfold Kh at h;split at h
  .rename_i Y;exact .inr (k1!).2
  .exact s.x.new b h
def oW(h:Tp X [] g7 rest q1):Tp X own g7 rest q1:=⟨λM0 G0 F0 O s Z H E I ⟨G,ρ,M,R,sr,e,k1,k2⟩=>h.ok M0 G0 F0 O s Z H E I ⟨_,ρ,M,R,sr.free,e,k1,k2⟩⟩
def Bn(f:WE):WS:=λρ M R=>f ρ M λd M1=>R a6_ M1
def bX(h:bH!):MS X own a8 md! (Bn f):=oY (b6t h.ok) λM0 G0 F0 E Z G H ρ M R sr e k1 k2=>
 ⟨G,ρ,M,_,sr.st,e,λd M' v G' H' r x m q=>k2 d M' v G' H' r (sr.x.trans x sr.st.mr) m q⟩
def Pl:WS:=λ_ M R=>R (.rt .non) M
def a1r:MS X own a8 rF! Pl:=oY c2d λM0 G0 F0 E Z G H ρ M R sr e k1 k2=>k2 _ M _ G H e sr.x sr.st.mr Ar.non
def An(i:Nat)(f:WE):WS:=λρ M R=>f ρ M λd M1=>R (.nx bR_) M1
def aZ{i:Nat}(hN:aW_)(hi:ad_)(hx:bb!)(h:bH!)(bq:aT!:=by decide)(hs:os_:=by rfl)
  (hf:X.fn x=true\/X.env.scope.names.lookup x=some .local:=by first|exact .inl rfl|exact .inr rfl|assumption):MS X own own wE! (An i f):=
 oY wD_ λM0 G0 F0 E Z G H ρ M R sr e k1 k2=>⟨G,ρ,M,_,sr.st,e,zz!⟩
def Av(ft:WT)(q1 q2:WS):WS:=λρ M R=>ft ρ M λb M1=>if b then q1 ρ M1 R else q2 ρ M1 R
def cL{b1 b2:bp!}(hc:kL!)(B:Tp X own a8 b1 q1)(J:Tp X own a8 b2 q2):MS X own a8 ou! (Av ft q1 q2):=⟨λM0 G0 F0 O s Z H E I ⟨G,ρ,M,R,sr,e,k1,k2⟩=>by
 refine b6v hc.ok pN! zx! O s Z H E I zz_;cases b with
 |true=>exact lA k2!
 |false=>exact lB k2!⟩
def Bm(f:WE):WS:=λρ M R=>f ρ M λ_ M1=>R ap_ M1
def cJ(h:bH!)(hs:mc!:=by rfl):MS X own own mc_ (Bm f):=
 oY (oO h.ok hs) λM0 G0 F0 E Z G H ρ M R sr e k1 k2=>⟨G,ρ,M,_,sr.st,e,zB!⟩
def Hs:WS:=λ_ _ _=>False
def lM:MS X own a8 st Hs:=zB_
def Dz(C:xK!)(x:Str)(fo f:WE):WS:=λρ M R=>f ρ M λy M1=>fo ρ M1 λd M2=>match d with
 |.fn p=>(match M2 p with|some (.obj C' fs)=>C'=C/\bn_<100/\R ap_ (Az M2 p pP!)|_=>False)
 |_=>False
def fV(c:dK!)(n:Ed X.K C x)(ho:cj_)(h:bH!)(hs:swapsWith e (some (.Attribute o x p2)) pos.line X.env=pure false:=by rfl):MS X own own (.Assign [.Attribute o x p2] e pos) (Dz C x fo f):=
 oY (c6k ho.ok h.ok hs) λM0 G0 F0 E Z G H ρ M R sr e k1 k2=>⟨G,ρ,M,_,sr.st,e,λy M1 v G1 H1 r1 x1 m1 q1=>⟨G1,ρ,M1,_,sr.st.grow x1 m1,r1,λd M2 u G2 H2 r2 x2 m2 q2=>by
  cases d<;>first|exact r2.elim|skip
  rename_i p;cases fP q2;dsimp only at r2;split at r2
  .rename_i C' fs hM;obtain⟨hC,hl,r2⟩:=r2;subst hC;obtain⟨_,dx,vs,h3,h4⟩:=m2.cell p _ hM;have ar:bn_=bd!:=LN h4;exact⟨p,_,dx,vs,rfl,h3,c,n,u!,k1 ρ _ G2 Z _ r2 ((zD_).grow (.write m2 x2.sub hM) (m2.write hM ⟨dx,_,bR,b2h ci! h4⟩))⟩
  .exact r2.elim⟩⟩
def Ki(M:Mh)(d y v:D):Option Mh:=match d with
 |.fn p=>match M p with
  |some (.dct kvs ep)=>if(fv!).isSome&&decide (az!<big)then some hy! else none
  |some (.lst xs)=>match y with
   |.int j=>(Dx xs.length j).map λk=>Az M p (.lst (xs.set k v))
   |_=>none
  |_=>none
 |_=>none
def AS(P:z3!)(w:yt!)(K:z1!):V->V->V->Hp->mf!->Prop:=λo i v H Q=>∃(M:Mh) (G:Hp) (a:xK!) (kvs:g!) (ep:Nat) (d x:D) (k:MK),o=.ref a/\Bf G H/\MR P w K M G H/\M a=some hr!/\Ar K G d i/\Dk d=some k/\Ar K G x v/\az!<big/\
 ∀a7,Gq P w K G kM! a yS!->Q kM!
def c1t(hu:aE_):Vj X (AS X.prog X.w X.K):=by intro O s Z H o i v ov iv u Q I ro ri rv h;obtain⟨M,G,a,kvs,ep,d,x,k,rfl,sub,m,e,r,hk,rx,hl,q⟩:=h;cases ro;exact b0a (A:=X.A) a! I m sub e ⟨_,r,ri⟩ hk ⟨_,rx,rv⟩ hl λa7 s' I' c'=>⟨_,I',q a7 c'⟩
def c2b{r r':Xu}(h:Vj X r)(h':Vj X r'):Vj X (λo i v H Q=>r o i v H Q\/r' o i v H Q):=by
 intro O s Z H o i v ov iv u Q I ro ri rv q;obtain q|q:=q
 .exact h O s Z H o i v ov iv u Q I ro ri rv q
 .exact h' O s Z H o i v ov iv u Q I ro ri rv q
def Cd(fo fi f:WE):WS:=λρ M R=>f ρ M λv M1=>fo ρ M1 λd M2=>fi ρ M2 λy M3=>El pQ! λM4=>R ap_ M4
def dG{fi:WE}(hu:aE_)(ho:cj_)(hi:ME X own i fi)(h:bH!)
  (ha:∀v,assign zF! X.env v=(do
   let ov <-holding [v] cW!
   let iv <-holding [v,ov] rK_
   standAt p2
   holding eD_ mh!
   release eD_ []):=by intro _;rfl)
  (hs:swapsWithSole k3_ e pos.line X.env=pure false:=by rfl) (hw:swappedStores k3_ e X.env=pure none:=by rfl)
  (B:(assignEach k3_ X.env).map s_=[assign zF! X.env]:=by rfl):MS X own own (.Assign k3_ e pos) (Cd fo fi f):=
 oY (b6x h.ok (b7b ho.ok hi.ok (c2b a4l (c1t hu)) ha) hs hw B) λM0 G0 F0 E Z G H ρ M R sr e k1 k2=>⟨G,ρ,M,_,sr.st,e,λv M1 vv G1 H1 r1 x1 m1 q1=>⟨G1,ρ,M1,_,sr.st.grow x1 m1,r1,λd M2 dv G2 H2 r2 x2 m2 q2=>
  ⟨G2,ρ,M2,_,(sr.st.grow x1 m1).grow x2 m2,r2,λy M3 yv G3 H3 r3 x3 m3 q3=>by
   obtain⟨M4,e4,r4⟩:=cS r3;have wz:=(zD_).grow x3 m3;have qd:=q2.mono x3.g;have qv:=(ci!).mono x3.g;unfold Ki at e4;split at e4
   .rename_i p;cases fP qd;split at e4
    .rename_i kvs ep hM;split at e4
     .rename_i hc;rw[HZ,IF]at hc;cases e4;obtain⟨kk,hk⟩:=OM.mp hc.1;exact .inr ⟨M3,G3,p,kvs,ep,y,v,kk,rfl,x3.sub,m3,hM,q3,hk,qv,hc.2,λa7 c'=>k1 ρ _ G3 Z _ r4 (wz.grow zF_ (m3.write hM c'))⟩
     .cases e4
    .rename_i xs hM;split at e4
     .rename_i j;cases bA q3;obtain⟨n,e5,rfl⟩:=GU.mp e4;obtain⟨_,vs,h3,h4⟩:=m3.cell p _ hM;exact .inl ⟨p,vs,j,n,rfl,rfl,h3,by rw[<-aJ h4];exact e5,k1 ρ _ G3 Z _ r4 (wz.grow zF_ (m3.write hM ⟨_,bR,uT qv n h4⟩))⟩
     .cases e4
    .cases e4
   .cases e4⟩⟩⟩
def Sn(i:Nat)(f:WE):WS:=λρ M R=>match ρ[i]? with
 |some (some (.int a))=>f ρ M λd M1=>(match d with|.int b=>R (.nx (ρ.set i (some (.int (a+b))))) M1|_=>False)
 |_=>False
def b8i{i:Nat}(hN:aW_)(hi:ad_)(hx:bb!)(h:bH!)(bq:aT!:=by decide)
  (hf:X.fn x=true\/X.env.scope.names.lookup x=some .local:=by first|exact .inl rfl|exact .inr rfl|assumption):MS X own own (.AugAssign dl! .Add e pos) (Sn i f):=
 oY (c6l hN hi hx h.ok c8f hf) λM0 G0 F0 E Z G H ρ M R sr e k1 k2=>by
  unfold Sn at e;show"!7"
  .rename_i a oy;obtain⟨v,B,J⟩:=sr.st.or.at_ i _ oy bq;cases bA J;refine⟨_,B,G,ρ,M,_,sr.st,e,zG!⟩;cases d<;>first|exact r.elim|skip
   cases bA q;exact⟨a,_,rfl,rfl,k1 _ M' G' _ H' r ((pN_).set bq Ar.int)⟩
  .exact e.elim
def Ch(ft:WT)(q:WS):Nat->WS
 |0=>λ_ _ _=>False
 |n+1=>λρ M R=>ft ρ M λb M1=>if b then q ρ M1 (λr M2=>match r with|.nx bh=>Ch ft q n bh M2 R|.rt d=>R a6_ M2)else R ap_ M1
def Fj(ft:WT)(q:WS):WS:=λρ M R=>∃n,Ch ft q n ρ M R
def iJ(hp:fZ!)(hc:kL!)(Y:zG_):MS X own own rO! (Fj ft q1):=⟨λM0 G0 F0 O s Z H E I ⟨G,ρ,M,R,sr,⟨n,e⟩,k1,k2⟩=>by
 refine b6s hp hc.ok (Y.ok M0 G0 F0) O s Z H E I ⟨λm h2 H'=>∃G' ρ' M',Io X.prog X.w X.K own M0 G0 F0 M' G' H' h2 ρ'/\Ch ft q1 m ρ' M' R,⟨n,G,ρ,M,sr,e⟩,?_⟩;rintro m h2 H' ⟨G',ρ',M',dm,e'⟩;cases m with
 |zero=>exact e'.elim
 |succ m=>
  refine⟨G',ρ',M',_,dm.st,e',λb M1 G1 H1 r1 x1 m1=>?_⟩;cases b with
  |true=>exact lA ⟨λdb H2=>∃G2 bh M2,Io X.prog X.w X.K own M0 G0 F0 M2 G2 H2 db bh/\Ch ft q1 m bh M2 R,λdb H2 h=>⟨m,IW m,h⟩,G1,ρ',M1,_,dm.grow x1 m1,r1,λbh M2 G2 db H2 r2 zu=>⟨G2,bh,M2,zu,r2⟩,λd M2 v G2 H2 r2 x2 m2 q2=>k2 d M2 v G2 H2 r2 x2 m2 q2⟩
  |false=>exact lB (k1 ρ' M1 G1 h2 H1 r1 (dm.grow x1 m1))⟩
end
def CZ(P:z3!)(w:yt!)(K:z1!)(ac:It)(ds:a_)(ck:cL_)(G1:Hp):Prop:=∀(i:Nat) (M':Mh) (G' H':Hp),Bf G1 G'->Bf G' H'->MR P w K M' G' H'->ck M'->
 wr_/\ws!
abbrev WI:=Ad->Mh->(List D->(Mh->Prop)->Mh->Prop)->Prop
inductive EX(P:z3!)(w:yt!)(K:z1!)(own:i_)(fi:WI)(Z:St)(H:Hp)(R:fZ_):Prop
 |mk (G:Hp) (ρ:Ad) (M:Mh) (T:List D->(Mh->Prop)->Mh->Prop) (st:hl_) (e:fi ρ M T) (k:∀ds ck M1 ac G1 H1,T ds ck M1->XM M G H M1 G1 H1->MR P w K M1 G1 H1->CZ P w K ac ds ck G1->R ac H1):EX P w K own fi Z H R
structure MI(X:Cx)(own:i_)(tg iter:Expr)(fi:WI):Prop where
 ok:PI X tg iter (EX X.prog X.w X.K own fi)
section
variable{X:Cx}{own a8 g7:List Nat}{st:Stmt}{rest body:List Stmt}{e a b c tg o:Expr}{es:List Expr}{pos p2:Pos}{f fa fb fc fo:WE}{fs:WA}{fi:WI}{ft fu:WT}{q1 q2 q3:WS}{di:Ad->Option (List D)}
def c5j{wi:TI}(h:PI X tg e wi)(hw:∀Z G H R ρ M T,Sh X.prog X.w X.K own G H Z ρ M->fi ρ M T->(∀ds ck M1 ac G1 H1,T ds ck M1->XM M G H M1 G1 H1->MR X.prog X.w X.K M1 G1 H1->CZ X.prog X.w X.K ac ds ck G1->R ac H1)->wi Z H R):MI X own tg e fi:=
 ⟨λO s Z H R I ⟨G,ρ,M,T,st,e,k⟩=>h O s Z H R I (hw Z G H R ρ M T st e k)⟩
def Lw(di:ao!):WI:=λρ M T=>El (di ρ) λds=>T ds Q! M
def Xw.m{K:z1!}{ac:It}{G1:Hp}(h:Xw K ac ds G1):CZ P w K ac ds Q! G1:=λi M' G' H' s1 s2 _ _=>h i G' H' s1 s2
def tH(h:DI X own tg e di):MI X own tg e (Lw di):=c5j h.ok λZ G H R ρ M T st e k=>by
 obtain⟨ds,e1,e2⟩:=cS e;exact⟨G,ρ,ds,st.or,e1,λac G1 H1 x fm=>k ds _ M ac G1 H1 e2 (.ext x) pp_ fm.m⟩
def Ds(f:WE):WI:=λρ M T=>f ρ M λd M1=>match d with
 |.lst xs=>T xs Q! M1
 |.fn p=>(match M1 p with|some (.lst xs)=>T xs (λM=>M p=some N!) M1|_=>False)
 |_=>False
def fW(h:ay!):MI X own tg a (Ds fa):=c5j (b1h h.ok) λZ G H R ρ M T st e k=>⟨G,ρ,M,_,st,e,λd M1 v G1 H1 r1 x1 m1 q1=>by
 cases d<;>first|exact r1.elim|skip
 .obtain⟨p,vs,rfl,q,rr⟩:=bQ q1;exact⟨p,rfl,⟨vs,x1.sub.seq q⟩,k _ _ M1 _ G1 H1 r1 x1 m1 (a6o q rr).m⟩
 .rename_i p;cases fP q1;dsimp only at r1;split at r1
  .rename_i xs hM;obtain⟨_,vs,B,J⟩:=m1.cell p _ hM;refine⟨p,rfl,⟨vs,Ff.of B⟩,k _ _ M1 _ G1 H1 r1 x1 m1 λi M' G' H' s1 s2 m' ck=>?_⟩;obtain⟨_,gh,h3,h4⟩:=m'.cell p _ ck;have q':Ff X.K H' p gh:=Ff.of h3;refine⟨dm!,λhi=>⟨gh,q',by rw[<-aJ h4,hi];exact HL _⟩⟩;obtain⟨v,g1,g2⟩:=fQ h4 hd;refine⟨⟨gh,v,q',g1⟩,fd!⟩;obtain⟨e1,e2⟩:=hy;subst e1;have:=e2 gh q';rw[g1]at this;cases this;exact⟨G',j2!,g2⟩
  .exact r1.elim⟩
def Gf(bnd:ag!)(ck:cL_)(q:WS):List D->WS
 |[]=>λρ M R=>ck M/\R ap_ M
 |d::ds=>λρ M R=>ck M/\El j3! λal=>q al M λr M1=>match r with|.nx bh=>Gf bnd ck q ds bh M1 R|.rt d=>R a6_ M1
def Df(fi:WI)(bnd:ag!)(q:WS):WS:=λρ M R=>fi ρ M λds ck M1=>Gf bnd ck q ds ρ M1 R
def ET(K:z1!)(own:i_)(g:TG)(bnd:ag!):Prop:=∀{P:z3!} {w:yt!} {x:V} {d:D} {Z:St} {M0 M:Mh} {G0 F0 G H:Hp} {ρ al:Ad} {Q:ik!},Io P w K own M0 G0 F0 M G H Z ρ->Ar K G d x->bnd d ρ=some al->(∀bx,Io P w K own M0 G0 F0 M G H bx al->Q bx H)->g x Z H Q
def dB{K:z1!}(i:Nat)(hi:aT!:=by decide):ET K own eD! (Bq i):=by intro P w x d Z M0 M G0 F0 G H ρ al Q sr r e k;cases e;exact k _ (sr.set hi r)
def Uy(i j:Nat):D->Ad->Option Ad:=λd ρ=>match d with|.tup [x,y]=>some ((ρ.set i dC_).set j (some y))|_=>none
def b9o{K:z1!}(i j:Nat)(hi:aT!:=by decide)(hj:j∉own:=by decide):ET K own ww! (Uy i j):=by
 intro P w x d Z M0 M G0 F0 G H ρ al Q sr r e k;unfold Uy at e;show"!7"
 .cases e;show"!Z";show"!5";exact⟨p,[v1,v2],rfl,bS sr.st.or.sub q,rfl,v1,[v2],rfl,v2,[],rfl,rfl,k _ ((sr.set hi r1).set hj r2)⟩
 .cases e
def Io.base{K:z1!}{M0 M1:Mh}{G0 F0 G1 H1:Hp}{Z:St}{ρ:Ad}(s:pR_):Io P w K own M1 G1 hA_ M1 G1 H1 Z ρ:=
 ⟨s.st,⟨Bf.refl _,s.st.or.sub,dm_,λb o e _=>s.sr.ext.h b o e,dm_,λb h=>h⟩,λi hi p e=>s.sr.fr i hi p e⟩
def Io.unx{K:z1!}{M0 M1 M':Mh}{G0 F0 G1 H1 G' H':Hp}{Z:St}{ρ:Ad}(s:pR_)(y:XM M1 G1 hA_ M' G' H'):XM M0 G0 F0 M' G' H':=by
 refine⟨s.x.g.trans y.g,y.sub,bh_,zv!,bh_,λb h=>y.cells b (s.x.cells b h)⟩
 .obtain z|z:=y.new b h
  .exact s.x.new b z
  .exact pL_
 .refine y.keep b o ?_ ?_
  .unfold Fv;rw[zw!];exact s.x.keep b o e Y
  .cases q:M1 b with
   |none=>rfl
   |some c=>
    rcases s.x.dom b cw! with z|z
    .exact absurd Y z
    .rw[e]at z;cases z
 .obtain z|z:=y.dom b h
  .exact s.x.dom b z
  .exact pL_
def Io.unbase{K:z1!}{M0 M1 M':Mh}{G0 F0 G1 H1 G' H':Hp}{Z h2:St}{ρ ρ':Ad}(s:pR_)(s':Io P w K a8 M1 G1 hA_ M' G' H' h2 ρ'):Io P w K a8 M0 G0 F0 M' G' H' h2 ρ':=
 ⟨s'.st,s.unx s'.x,λi hi p e=>s.noF (s'.fr i hi p e)⟩
def eO{g:TG}{bnd:ag!}(hp:fZ!)(hc:bb_)(a9:pT_)(hg:mi!)(oj:ET X.K own g bnd)(Y:zG_)
  (hs:cX_:=by intro _;rfl):MS X own own r7! (Df fi bnd q1):=⟨λM0 G0 F0 O s Z H E I ⟨G,ρ,M,R,sr,e,k1,k2⟩=>by
 have b8:Ov X body (λE Z H=>∃A hb C,Zx X.prog X.w X.K A hb C own own q1 E Z H):=λO s Z H E I ⟨A,hb,C,h⟩=>Y.ok A hb C O s Z H E I h;refine b6w hp hc a9.ok hg b8 hs O s Z H E I ⟨G,ρ,M,_,sr.st,e,λds ck M1 ac G1 H1 r1 x1 m1 fm=>?_⟩;have zw:=sr.grow x1 m1;refine⟨λn m h2 H'=>n<=f_/\m=f_ - n/\∃G' ρ' M',Io X.prog X.w X.K own M1 G1 hA_ M' G' H' h2 ρ'/\Gf bnd ck q1 nV_ ρ' M' R,
  ⟨f_,JA _,rfl,G1,ρ,M1,zw.base,r1⟩,?_⟩
 rintro n m h2 H' ⟨hn,rfl,G',ρ',M',dm,e3⟩;have ir:ck M':=by
  cases hd:ds.drop n with
  |nil=>rw[hd]at e3;exact e3.1
  |cons _ _=>rw[hd]at e3;exact e3.1
 obtain⟨og,oi⟩:=fm n M' G' H' dm.x.g dm.st.or.sub dm.st.mr ir;by_cases ao:n<f_
 .right;have hd:ds[n]?=some ds[n]:=by simp[ao]
  rw[LK ao]at e3;obtain⟨_,e3⟩:=e3;obtain⟨al,e4,e3⟩:=cS e3;obtain⟨go,yl⟩:=og _ hd;refine⟨go,λdb H2=>∃G2 bh M2,Io X.prog X.w X.K own M1 G1 hA_ M2 G2 H2 db bh/\Gf bnd ck q1 (ds.drop bF!) bh M2 R,λdb H2 ⟨G2,bh,M2,B,h3⟩=>⟨f_ - bF!,u!,ao,rfl,G2,bh,M2,B,h3⟩,j4!⟩;obtain⟨G2,x2,r2⟩:=yl v H2 hy;have zu:=dm.grow kU_ (dm.st.mr.ext x2);exact oj zu r2 e4 λgq wz=>⟨M1,G1,Fv own Z H1,G2,al,M',_,wz,e3,λum M4 G4 σ4 H4 r4 ZH=>⟨G4,um,M4,ZH,r4⟩,λd M4 v G4 H4 r4 x4 m4 q4=>k2 d M4 v G4 H4 r4 (zw.unx x4) m4 q4⟩
 .left;have ip:n=f_:=by omega
  refine oE!;rw[ip,OY]at e3;exact k1 ρ' M' G' h2 H' e3.2 (zw.unbase dm)⟩
def Qq(bnd:ag!)(ck:cL_)(ft:WT)(fe:WE)(ρ:Ad):List D->Mh->yA_->Prop
 |[],M,R=>ck M/\R [] M
 |d::ds,M,R=>ck M/\El j3! λal=>ft al M λb M1=>if b then fe al M1 λy M2=>Qq bnd ck ft fe ρ ds M2 λys M3=>R (y::ys) M3 else Qq bnd ck ft fe ρ ds M1 R
def Dt(nl:Nat)(ix:i_)(fi:WI)(bnd:ag!)(ft:WT)(fe:WE):WE:=λρ M R=>fi ρ M λds ck M1=>f_<=big/\Qq bnd ck ft fe nY! ds M1 λys M2=>R aR_ M2
def b2o{K:z1!}{ac:It}{ds:a_}{ck:cL_}{M1:Mh}{G1 H1:Hp}{g:TG}{bnd:ag!}{fe:WE}{km:Ad}{ud:St}{Fin:cT_}{R:pn_}
  (Y:f_<=big)(fm:CZ P w K ac ds ck G1)(hg:GD K g bnd)(er:Sh P w K [] G1 H1 ud km M1)(e:Qq bnd ck ft fe km ds M1 R)(k:∀jo ys M' G' H',R jo M'->XM M1 G1 H1 M' G' H'->MR P w K M' G' H'->Am K G' jo ys->jo.length<=f_->Fin ys H'):
  Uz ac g (Xz P w K [] ft) (AG P w K [] fe) Fin ud H1:=by
 refine⟨λi m ys h2 H'=>i<=f_/\m=f_ - i/\∃G' M' ws,XM M1 G1 H1 M' G' H'/\Sh P w K [] G' H' h2 km M'/\Am K G' ws ys/\nf!<=i/\Qq bnd ck ft fe km (ds.drop i) M' λr M2=>R (ws++r) M2,
  ⟨f_,JA _,rfl,G1,M1,[],.refl er.or.sub,er,Am.nil,JA _,e⟩,?_⟩
 rintro i m ys h2 H' ⟨hi,rfl,G',M',ws,x,cr,au,hw,e2⟩;refine wx_;have ir:ck M':=by
  cases hd:ds.drop i with
  |nil=>rw[hd]at e2;exact e2.1
  |cons _ _=>rw[hd]at e2;exact e2.1
 obtain⟨og,oi⟩:=fm i M' G' H' x.g cr.or.sub cr.mr ir;by_cases ao:i<f_
 .right;have hd:ds[i]?=some ds[i]:=by simp[ao]
  rw[LK ao]at e2;obtain⟨_,e2⟩:=e2;obtain⟨al,e1,e2⟩:=cS e2;obtain⟨go,yl⟩:=og _ hd;refine⟨go,j4!⟩;obtain⟨G2,x2,r2⟩:=yl v H2 hy;have cg:=cr.grow kU_ (cr.mr.ext x2);have ZI:XM M1 G1 H1 M' G2 H2:=x.trans kU_ cr.mr;refine hg cg.or r2 e1 λbx nz ue=>⟨G2,al,M',_,zM!,e2,λb M3 G3 H3 r3 x3 m3=>?_⟩;have ky:=(show Sh P w K [] G2 H2 bx al M' from zM!).grow x3 m3;have mj:=ZI.trans x3 cg.mr;cases b with
  |true=>
   refine lA ⟨G3,al,M3,_,ky,r3,λy M4 u G4 H4 r4 x4 m4 q4=>⟨f_ - aY_,u!,ao,rfl,G4,M4,ws++[y],mj.trans x4 m3,⟨(ky.grow x4 m4).or.le ue,m4,an_⟩,?_,?_,?_⟩⟩
   .exact cW wz! (Am.cons q4 Am.nil)
   .rw[HE,IZ];omega
   .have e5:(λr M2=>R (ws++[y]++r) M2)=λr M2=>R (ws++y::r) M2:=by
     funext r M2;rw[IY];rfl
    rw[e5];exact r4
  |false=>
   exact lB ⟨f_ - aY_,u!,ao,rfl,G3,M3,ws,mj,⟨ky.or.le ue,m3,an_⟩,(op!).mono x3.g,u!,r3⟩
 .left;have ip:i=f_:=by omega
  refine oE!;rw[ip,OY]at e2;have this:R (ws++[]) M':=e2.2;rw[HV]at this;exact k ws ys M' G' H' this x cr.mr au a!
def tV{scope:Scope}{NL:n!}{ix:i_}{g:TG}{bnd:ag!}{fe:WE}
  (cj:dd_)(ce:de!)(kj:∀y∈ca!,y.2=.local->scope.names.lookup y.1=some .local)
  (il:gJ_)(cap:dd!)(hix:jN!)(calm:bb_)(a9:pT_)
  (hg:gK!)(oj:op_)(hi:zQ!)(he:zP_)
  (hs:cX_:=by intro _;rfl):
  ME X own gI! zR_:=
 eS wB! λZ G H Q ρ M R st e k=>⟨G,ρ,M,_,st,e,λds ck M1 ac G1 H1 r1 x1 m1 fm=>by
  obtain⟨Y,r1⟩:=r1;have kh:=st.grow x1 m1;refine b2o Y fm oj zQ_ r1 λjo ys M' G' H' r x m q _ p hp=>?_;exact k _ M' _ _ _ r ((x1.trans x m1).trans (.ext gY!) m) (m.ext gY!) (dX oq! q)⟩
def b1x:Pe X [] (Xz X.prog X.w X.K [] λρ M R=>R true M):=λO s Z H Q I ⟨G,ρ,M,R,st,e,k⟩=>a5i O s Z H Q I (k true M G H e kI_ st.mr)
def a5z(h:MT X [] c ft):Pe X [c] zO_:=a5h h.ok
abbrev WF:=List D->Mh->pn!->Prop
def Wv(P:z3!)(w:yt!)(K:z1!)(n:Nat)(g:WF):Sp:=λvs H Q _=>bd!=n/\∃G ds M R,Bf G H/\MR P w K M G H/\Am K G ds vs/\g ds M R/\∀d M' v G' H',R d M'->XM M G H M' G' H'->MR P w K M' G' H'->Ar K G' d v->Q v H'
def Nt(P:z3!)(w:yt!)(K:z1!)(mg:y_)(base:Heap)(k:Nat)(x:Str)(ps:n!)(g:WF):Prop:=
 ∃ae fd,Fe P w K mg base Pf k ae fd ps pW!/\Eu K fd ps []/\mg x=some bi_/\W.keepIn K bi_=true
nonrec def gl(g:ac_):WF:=λds M R=>El (g ds) λd=>R d M
def Ao(n:Nat)(g:WF)(fs:WA):WE:=λρ M R=>fs ρ M λds M1=>f_=n/\g ds M1 R
def bD{k:Nat}{ps:n!}{g:WF}{x:Str}(F:Nt X.prog X.w X.K X.mg X.base k x ps g)(hr:bv!)(hg:M_)(ha:fv_)
  (av:B_:=by decide)(he:am!:=by rfl)(ax:aQ!:=by rfl):
  ME X own be_ (Ao ps.length g fs):=by
 show"#.";refine eS (a1b B hr hg h3 h4 J .nil vA ha.ok av he ax) λZ G H Q ρ M R st e' k=>⟨G,ρ,M,_,st,e',zT!⟩;show Wv X.prog X.w X.K ps.length g (vs++[]) H1 Q E0;rw[HV];exact⟨zT_,G1,ds,M1,R,x1.sub,m1,q1,r1.2,ps_⟩
def Es(P:z3!)(w:yt!)(K:z1!)(mg:y_)(base:Heap)(k:Nat)(C:xK!)(m:Str)(ps:n!)(g:WF):Prop:=
 Tu K C/\∃ae fd,Vl K C m ae/\Fe P w K mg base Pf k ae fd ps pW!/\Eu K fd ps []
def Dg(C:xK!)(m:Str)(M:Mh)(d:D):Prop:=match d with
 |.fn p=>(match M p with|some (.obj C' fs)=>C'=C/\fs.lookup m=none|_=>False)
 |_=>False
def a6q{K:z1!}{M:Mh}{G H:Hp}(mr:ch!)(r:cz!)(h:k6_):∃p dx vs,d=.fn p/\v=.ref p/\H p=some yw_/\vs.lookup m=none:=by
 unfold Dg at h;split at h
 .rename_i p;cases fP r;split at h
  .rename_i C' fs hM;obtain⟨rfl,hl⟩:=h;obtain⟨_,dx,vs,B,J⟩:=mr.cell p _ hM;exact⟨p,dx,vs,rfl,rfl,B,a6y J hl⟩
  .exact h.elim
 .exact h.elim
def Bh(C:xK!)(m:Str)(n:Nat)(g:WF)(fo:WE)(fs:WA):WE:=λρ M R=>fo ρ M λd M1=>Dg C m M1 d/\fs ρ M1 λds M2=>f_+1=n/\g dV_ M2 R
def cE{k:Nat}{ps:n!}{g:WF}{aj:Pos}{pl:dI_}(F:zU_)(hr:bv!)(ho:cj_)(ha:fv_)
  (hst:am!:=by rfl)(ax:aQ!:=by rfl)
  (ht:eval iX! X.env=(do
   let ov <-eval o X.env
   standAt gk!
   let(f,first) <-holding [ov] gk_
   callWith pos f first s8_ eM!):=by rfl):ME X own iX! (Bh C m ps.length g fo fs):=by
 obtain⟨cl,ae,fd,B,J,h3⟩:=F;refine eS (c2j (pl:=pl) ho.ok cl B J hr h3 .nil vA ha.ok hst ax ht) λZ G H Q ρ M R st e' k=>zV_;show"!m";refine⟨p,dx,vs,rfl,hH,hl,G1,ρ,M1,_,kK!,r1,λds M2 us G2 H2 r2 x2 m2 q2=>?_⟩;show Wv X.prog X.w X.K ps.length g (.ref p::(us++[])) H2 Q E0;rw[HV];exact⟨by rw[HA,<-aJ q2];exact r2.1,G2,.fn p::ds,M2,R,x2.sub,m2,Am.cons Ar.fn q2,r2.2,λd M3 v G3 H3 r3 x3 m3 q3=>k d M3 v G3 H3 r3 pD_ m3 q3⟩
def b8o{k:Nat}{ps:n!}{g:WF}{aj:Pos}{pl:dI_}(F:zU_)(hr:bv!)(ho:cj_)
  (ht:eval iX_ X.env=(do
   let ov <-eval o X.env
   standAt gk!
   let(f,first) <-holding [ov] gk_
   callWith pos f first m5! eM!):=by rfl):ME X own iX_ (Bh C m ps.length g fo Ag):=by
 obtain⟨cl,ae,fd,B,J,h3⟩:=F;refine eS (b7k (pl:=pl) ho.ok cl B J hr h3 .nil vA ht) λZ G H Q ρ M R st e' k=>zV_;show"!m";refine⟨p,dx,vs,rfl,hH,hl,?_⟩;show Wv X.prog X.w X.K ps.length g [.ref p] H1 Q E0;have r2:[].length+1=T!/\g (D.fn p::[]) M1 R:=r1;exact⟨r2.1,G1,[.fn p],M1,R,x1.sub,m1,Am.cons Ar.fn Am.nil,r2.2,λd M3 v G3 H3 r3 x3 m3 q3=>k d M3 v G3 H3 r3 (x1.trans x3 m1) m3 q3⟩
def Vk(P:z3!)(w:yt!)(K:z1!)(mg:y_)(base:Heap)(k:Nat)(x:Str)(C:xK!)(ps:n!)(g:WF):Prop:=
 mg x=some ab_/\∃ae fd,Mk K C ae/\Fe P w K mg base Pf k ae fd ps pW!/\Eu K fd ps []
def Hi(C:xK!)(n:Nat)(g:WF)(fs:WA):WE:=λρ M R=>fs ρ M λds M1=>f_+1=n/\∀p,M1 p=none->g (.fn p::ds) (Az M1 p k8!) λd M2=>d=.non/\R C_ M2
def b8r{K:z1!}{M1:Mh}{G1 H1:Hp}(sub:Bf G1 H1)(m1:yy!)(hx:H1 x=none)(ju:H1 dx=none)(ne:dx≠x):
  XM M1 G1 H1 (Az M1 x k8!) G1 m3_/\MR P w K (Az M1 x k8!) G1 m3_:=by
 have old:∀b o,H1 b=some o->upd ri_ x m3! b=some o:=λb o e=>by rw[aY (cC e hx),aY (cC e ju)];exact e
 refine⟨⟨Bf.refl G1,λb o e=>old b o (sub b o e),dm_,λb o e _=>old b o e,bh_,bh_⟩,⟨λb q e=>?_⟩⟩
 .by_cases Y:b=x
  .subst Y;exact .inr hx
  .rw[bm_]at h;exact .inl h
 .by_cases Y:b=x
  .subst Y;rw[mup_same];simp
  .rw[bm_];exact h
 .by_cases Y:b=x
  .show"#$";exact⟨sub.free hx,dx,[],bR,.nil⟩
  .rw[bm_]at e;obtain⟨B,J⟩:=m1.cell b q e;refine⟨B,J.mono (Bf.refl G1) ?_⟩;cases hq:H1 b with
   |none=>exact absurd hq J.has
   |some o=>exact old b o hq
def c3e{k:Nat}{x:Str}{ps:n!}{g:WF}(F:zY_)(hr:gq_)(hg:M_)(ha:fv_)
  (av:B_:=by decide)(he:am!:=by rfl)(ax:aQ!:=by rfl):ME X own be_ (Hi C ps.length g fs):=by
 obtain⟨hm,ae,fd,B,J,h3⟩:=F;refine eS (c2k B J hr hg hm h3 .nil vA ha.ok av he ax) λZ G H Q ρ M R st e' k=>⟨G,ρ,M,_,st,e',λds M1 vs G1 H1 r1 x1 m1 q1=>λy dx hy ju ne=>?_⟩;obtain⟨z1,z2⟩:=b8r (C:=C) x1.sub m1 hy ju ne;rw[HV];exact⟨by rw[HA,<-aJ q1];exact r1.1,G1,.fn y::ds,_,_,z1.sub,z2,Am.cons Ar.fn q1,r1.2 y (m1.nocell hy),λd M2 v G2 H2 r2 x2 m2 q2=>by
  obtain⟨rfl,r2⟩:=r2;exact⟨dY q2,k _ M2 _ G2 H2 r2 ((x1.trans z1 m1).trans x2 z2) m2 Ar.fn⟩⟩
def lP{k:Nat}{x:Str}{ps:n!}{g:WF}(F:zY_)(hr:gq_)(hg:M_)
  (av:B_:=by decide):ME X own tf! (Hi C ps.length g Ag):=by
 obtain⟨hm,ae,fd,B,J,h3⟩:=F;refine eS (b7l B J hr hg hm h3 .nil vA av) λZ G H Q ρ M R st e' k=>λy dx hy ju ne=>?_;obtain⟨z1,z2⟩:=b8r (C:=C) st.or.sub st.mr hy ju ne;have r1:[].length+1=T!/\∀p,M p=none->g (D.fn p::[]) (Az M p k8!) λd M2=>d=.non/\R C_ M2:=e';exact⟨r1.1,G,[.fn y],_,_,z1.sub,z2,Am.cons Ar.fn Am.nil,r1.2 y (st.mr.nocell hy),λd M2 v G2 H2 r2 x2 m2 q2=>by
  obtain⟨rfl,r2⟩:=r2;exact⟨dY q2,k _ M2 _ G2 H2 r2 (z1.trans x2 z2) m2 Ar.fn⟩⟩
def Cz(N:n!)(n:Nat)(q:WS):WF:=λds M R=>f_=n/\q g2! M λr M'=>match r with|.rt d=>R d M'|.nx _=>R .non M'
end
def tY{K:z1!}{mg:y_}{st:Stmt}{ps:n!}{k:Nat}{σ:i_}{q:WS}
  (F:wS_)(S:dc_)
  (Y:∀(af:ys!) (A:xX!) (outer:V_) (s:z2!) (H:Hp) (E:XK),Ak k oE_->Tp (oF!).nox [] σ bz! q):
  Fe P w K mg base Pf Q_ ae fd ps (Wv P w K ps.length k9!):=by
 refine wT_;obtain⟨hl,G,ds,M,R,sub,m,r,e,kk⟩:=h;refine⟨_,(wU!).ok M G H,?_⟩;have er:=uH (N:=N) sub r;exact z0!
section
variable{P:z3!}{w:yt!}{A:xX!}{E:Value->Shared->Prop}{s:z2!}{d it:xK!}{es:List DictEntry}{ep i:Nat}
def Oa.at{h h':Heap}(D:Oa h d es ep)(e:∀o,h.get? d=some o->h'.get? d=some o):Oa h' d es ep:=let⟨o,ho,r⟩:=D;⟨o,e o ho,r⟩
def b9h{Q:n_}(hd:pZ!)(D:pZ_)
  (h:Q dF! {s with heap:=s.heap.push {cls:=.type "dict_keyiterator",data:=.fields #[.ref d,.int 0 0,.int es.length 0,.int ep 0]}}):wpAny J_ A (pyIter (.ref d)) Q E s:=by
 have hT:=D.typeIs;obtain⟨o,ho,hc,w9⟩:=id D;refine wpAny_pyIter_slot hT PySem.F.slot_dict_iter (IP PySem.F.slot_dict_iter hT PySem.F.entry_dict_iter ?_ (PySem.F.args_dict_iter_1 _));unfold Builtin.«dict.__iter__» Builtin.Dict.dictSlotNone;refine GM px_;show wpAny J_ A.in1 (Builtin.Dict.showsAll d>>=_) _ _ s;unfold Builtin.Dict.showsAll;rw[GS (by rw[hd];exact HM)];refine GM (GO (GM (KG ho w9 (GM (LC ho w9 (GM (JN (GO ⟨_,rfl,"dict_keyiterator",_,oR_,JU.lookup,?_⟩))))))));simpa[rawInt]using h
def a5u{Q:fh_}{e:DictEntry}(a9:z0_)(D:pZ_)(hx:es[i]?=some e)
  (h:∀h',h'.IsKeyIter it d aY_ es.length ep->Heap.SameBut it s.heap h'->Q (some e.key) {s with heap:=h'}):wpAny J_ A iq! Q E s:=by
 show"![";obtain⟨ao,rc⟩:=HC.mp hx;show"#/"
 first|refine GM (LX hT k9_)|refine GM (NM hT k9_)
 show"!X";refine GM z3_;rw[an!];refine GO ?_;simp only[z4!,IN,LP,LG,hx];refine GM ?_
 first|refine GM (LX hT z4_)|refine GM (NM hT z4_)
 show wpAny J_ A.in1 (setField b2_ 1 z5!>>=_) _ _ s;have m9:(s.heap.update it z5_).IsKeyIter it d aY_ es.length ep:=
  ⟨_,JX _ ho (LO (KO hd _)),(xk_).trans hc,by rw[KO hd];simp[rawInt]⟩
 refine GM (NE ho hd c_ (GM (IT (GM (QE (s:={s with heap:=s.heap.update it z5_}) m9.typeIs ?_)))));exact GO (GO ⟨_,rfl,GO (h _ m9 ea!)⟩)
def b2j{Q:fh_}(hh:eR!)(a9:z0_)(D:pZ_)(hx:U_<=i)
  (h:∀h',Heap.ExtBut it s.heap h'->Q none {s with heap:=h'}):wpAny J_ A iq! Q E s:=by
 show"![";show"#/"
 first|refine GM (LX hT k9_)|refine GM (NM hT k9_)
 show"!X";refine GM z3_;rw[an!];refine GO ?_;simp only[z4!,IN,LP,LG,JE hx];refine GM ?_
 first|refine GM (LX hT X!)|refine GM (NM hT X!)
 show wpAny J_ A.in1 (setField b2_ 0 .none>>=_) _ _ s;refine GM (NE ho hd c_ ?_);refine GM ?_;simp only[newExc,newTuple];refine GM (JN (GM (m:=xl!) (wpAny_of_eq (a:=co_) xl_ (JN ?_ ki_))) ki_);simp only[raiseNew];refine GM xm!;rw[xm_];refine GM xn!;refine GM (wpAny_isInstance (T:=xC!) (b:=true) (show Shared.TypeIs _ _ _ from oR_) isSubtype_stop ?_);exact GO (h _ xn_)
def b2w(hh:eR!)(I d:xK!)(hne:d≠I)(es:ad!)(ep:Nat):Walks P w A I [I,d] [I] es.length p1_ (λi h=>h.IsKeyIter I d i es.length ep/\Oa h d es ep) where
 sub:=λb Y=>by simp at Y;simp[Y]
 frame:=λ_ _ _ st hk=>⟨st.1.at λo e=>hk I c_ o e,st.2.at λo e=>hk d c_ o e⟩
 item:=λi s Q E hi st hQ=>by
  refine a5u st.1 st.2 (HJ hi) λh' m9 cn=>?_;exact hQ _ h' s.toks ⟨_,HJ hi,rfl⟩ ⟨m9,st.2.at λo e=>(cn.2 d hne).trans e⟩ λb o Y e=>(cn.2 b f1!).trans e
 done:=λs Q E st hQ=>b2j hh st.1 st.2 x_ λh' k9=>hQ h' s.toks λb o Y e=>k9 b o f1! e
 self:=λ_ _ _ _ st hQ=>wpAny_pyIter_keyiter st.1 hQ
def c8z{es a7:ad!}{be:Nat}(D:Oa h d es ep)(D':Oa h d a7 be):es=a7/\ep=be:=by
 obtain⟨o,B,_,J⟩:=D;obtain⟨o',h3,_,h4⟩:=D';rw[B]at h3;cases h3;rw[J]at h4;injection h4 with h5 h6
 exact⟨by simpa using congrArg Array.toList h5,h6⟩
def FQ(d:xK!)(ep n:Nat):It:=⟨λi H=>∃es e x,H d=some cM!/\U_=n/\es[i]?=some e/\Bp x e.key,λi H x H'=>H'=H/\∀es,H d=some cM!->∃e,es[i]?=some e/\Bp x e.key,λi H=>∃es,H d=some cM!/\U_=n/\n<=i⟩
def a3u{P:z3!}{w:yt!}{H:Hp}{es:ad!}(hok:ba!)(e:H d=some cM!):Oa h d es ep:=by obtain⟨⟨h3,_⟩,_⟩:=(show Er P w H h d cM! from hok d _ e);exact h3
def b5p{P:z3!}{w:yt!}{K:z1!}{tg:Expr}{n:Nat}(d it:xK!):Qy P w K tg (FQ d ep n) [it] it (λi h=>h.IsKeyIter it d i n ep) where
 mem:=by simp
 obj:=λi h st b Y=>by
  have e:b=it:=by simpa using Y
  subst e;show"!S"
 keep:=λi h h' st k=>st.at λo e=>k it c_ o e
 item:=by
  intro X hP hw hK hc i O s Z H E I hf st hg;subst hP hw hK;obtain⟨es,e,x,hH,hl,hx,rx⟩:=hg;have D:=a3u I.hok hH;obtain⟨f0,f1,f2,f3,f4,f5⟩:=hf it c_;subst hl;refine a5u st D hx λh' h1 sb=>?_;have I1:Inv X O Z H {s with heap:=h'}:=I.turned (t':=s.toks) mn! f0 f1 f3 f4 f5;obtain⟨o,eo,c,dd⟩:=id h1;exact⟨_,rfl,b2g (s:=ir_) eo c dd d! ⟨x,H,I1,rx,⟨rfl,λa7 hy=>by
   obtain⟨rfl,_⟩:=c8z D (a3u I.hok hy);exact⟨e,hx,rx⟩⟩,h1,λb Y=>(hf b Y).1⟩⟩
 done:=by
  show"!/";obtain⟨es,hH,hl,hx⟩:=hg;show"!2";subst hl;exact b2j bq! st (a3u I.hok hH) hx λh' eb=>is_
 self:=λ_ _ _ _ _ st h=>wpAny_pyIter_keyiter st h
end
section
variable{X:Cx}{own:List Nat}{a tg:Expr}{fa:WE}
def Oj(f:WE):WI:=λρ M T=>f ρ M λd M1=>El hu! λq=>T la_ (λM=>M q.1=some pC!) M1
def b8m(h:ay!):MI X own tg a (Oj fa):=⟨by
 intro O s Z H R I ⟨G,ρ,M,T,st,e,k⟩;refine h.run I st e λd M1 v G1 H1 u s1 r1 x1 m1 q1 I1 rx=>?_;obtain⟨⟨p,kvs,ep⟩,e1,r2⟩:=cS r1;obtain⟨rfl,rfl,hM⟩:=cO q1 e1;cases rx;obtain⟨es,B,J,h3,h4,h5,h6⟩:=eI I1 m1 x1.sub hM;have ar:az!=U_:=LN J.1;refine b9h h4 h3 ⟨A_,[A_],_,FQ p ep U_,H1,rfl,it!,b5p p _,dE_,bq_,k _ _ M1 _ G1 H1 r2 x1 m1 λi M' G' H' s2 s3 m' ck=>?_⟩
 .have e:b=A_:=by simpa using Y
  show"!P"
 .obtain⟨_,a7,g1,g2⟩:=m'.cell p _ ck;have hlen':az!=a7.length:=LN g2.1;refine⟨dm!,λhi=>⟨a7,g1,u!,by rw[hi,HG];show U_<=az!;omega⟩⟩;rw[IB]at hd;obtain⟨q,hq,rfl⟩:=GU.mp hd;obtain⟨e',k9,⟨v,r1,rv⟩,_,_⟩:=gD g2.1 hq;refine⟨⟨a7,e',v,g1,u!,k9,rv⟩,fd!⟩;obtain⟨z1,z2⟩:=hy;subst z1;obtain⟨e2,qr,rx⟩:=z2 a7 g1;rw[k9]at qr;cases qr;rw[rx.inj rv];exact⟨G',Cm.refl s3,r1⟩⟩
end
section
variable{X:Cx}{O:List (Addr×Obj)}{Z:St}{H:Hp}{s:z2!}
def jV{J:Heap}{t':Nat}{wr:J!}(I:c!)(hf:∀b∈wr,Ii X O H b)(kp:∀c o,c∉wr->s.heap.get? c=some o->J.get? c=some o):Inv X O Z H {s with heap:=J,toks:=t'}:=by
 refine I.step (g':=s.gens) (d':=s.drawn) (t':=t') (ch:=wr) hd! oW_ oX! h5! oX_ h5_ h6! oY_ h6_ hd_ I.bare
 .obtain⟨f0,f1,f2,f3,f4,f5⟩:=hf c hc;exact⟨f3,f1,f4,f5⟩
 .obtain⟨o,es,ep,ho,r⟩:=hm;exact⟨o,es,ep,kp _ o (λz=>(hf _ z).2.1 rfl) ho,r⟩
 .refine(oZ_).stay o0! o0_ λ_ _ e'=>e';have hn:=(hf d hm).1;obtain rfl|hd:=hd
  .rw[hn]at e;cases e
  .rw[hn]at hd;cases hd
def c6a{s0:z2!}{xs:k!}{us:g_}(I:Inv X O Z H s0)(I1:c!)(hT:z9!<=T)(eT:s.heap.IsTuple T cx!)(rv:fK_)(hz:i!<=sizeLine):Inv X O Z (upd H T bJ!) s:=by
 have uk:H T=none:=I.hok.fresh hT;have ne:∀c o,H c=some o->c≠T:=λc o e=>cC e uk;refine Inv.step (g':=s.gens) (d':=s.drawn) (t':=s.toks) (h':=s.heap) (ch:=[T]) I1 hd! xK_ xL! xL_ xM!
  (xM_) xN! xN_ nN_ hd_ I1.bare
 .have e:c=T:=by simpa using hc
  subst e;obtain⟨_,g1,_,g3,g4,g5⟩:=I.fpOk hT uk;exact⟨g3,g1,g4,g5⟩
 .rw[nO!];exact n
 .by_cases Y:c=T
  .show"!x";exact⟨hz,us,rv,eT⟩
  .rw[aY Y]at e;exact(xO!).stay nO_ xO_ λd xs q=>by rw[o2_];exact q
end
def FP(x:Str):It:=⟨w8!,λi H v H'=>∃T c,v=.ref T/\H T=none/\x.cps[i]?=some c/\H'=upd H T (.tup [cq_,gA!]),w9!⟩
def a7y{K:z1!}{jb:bK!}{n1:Nat}{tp:Pos}{x:Str}{St':dD!}(rf:e≠it)(hd:xa!)
  (D:∀A':Around,oQ_=none->Draws P w A' it [it] x.cps.size Ab! St'):
  Qy P w K fi_ (FP x) [e,it] e (λi h=>i<=fh!/\(∃old,IsEnum h e it i old)/\St' i h) where
 mem:=by simp
 obj:=λi h st b Y=>by
  simp only[GR,IJ,KL]at Y;obtain⟨_,⟨old,s1⟩,s2⟩:=st;obtain rfl|rfl:=Y
  .exact⟨_,s1,jF_⟩
  .exact hd i h s2
 keep:=λi h h' st k=>by
  have W:=WalksT.enumerateD (A:=callerA) (D callerA.in1 rfl) e rf p3_ c_;exact⟨st.1,W.frame i h h' st.2 λb Y o q=>k b f1! o q⟩
 item:=by
  intro X hP hw hK hc i O s Z H E I hf st hg;subst hP hw hK;have hh:=I.ok.hd hc;have W:=WalksT.enumerateD (A:=X.A) Ab_ e rf p3_ c_;refine W.item i s _ _ hg st.2 λT yx h' tk hP hT ZJ hm kp=>⟨_,rfl,W.go jb n1 tp i T _ _ _ hm λJ bi VB=>?_⟩;obtain⟨t,y,⟨c,u,j8,rfl⟩,rfl⟩:=hP;have ZK:∀b∈[e,it],Ii X O H b:=hf;have I1:Inv X O Z H {s with heap:=J,toks:=tk}:=jV I ZK λc o hc eo=>VB c o hc (kp c o hc eo);have VC:T∉[e,it]:=W.apart i T _ hm;have eT:J.IsTuple T #[.int i t,.str aC! u]:=by
   obtain⟨o,eo,r⟩:=ZJ;exact⟨o,VB T o VC eo,r⟩
  have I2:=c6a (us:=[.int i t,.str aC! u]) (xs:=[cq_,gA!]) I I1 hT eT (.cons nH_ (.cons ⟨u,rfl⟩ .nil)) (by show 2<=sizeLine;rw[JC];decide);refine⟨.ref T,_,I2,rfl,⟨T,c,rfl,I.hok.fresh hT,j8,rfl⟩,⟨hg,bi⟩,bq_⟩;rw[aY (λz:b=T=>VC (by rw[<-z];exact Y))];exact(hf b Y).1
 done:=by
  show"!/";have hh:=I.ok.hd hc;have W:=WalksT.enumerateD (A:=X.A) Ab_ e rf p3_ c_;show"#A";exact W.done s _ _ st.2 λh' tk kp=>⟨rfl,jV I hf kp⟩
 self:=λA i s Q E st h=>by
  obtain⟨_,⟨old,s1⟩,_⟩:=st;exact wpAny_pyIter_enum s1 h
section
variable{X:Cx}{own:List Nat}{a:Expr}{jb:List Expr}{n1:Nat}{tp p pos:Pos}{fa:Ad->Option D}
def Sb(f:e_):Ad->Option aL!:=λρ=>(aj_).bind λd=>match d with|.str x=>some (x.cps.toList.zipIdx.map λq=>.tup Ad!)|_=>none
def c0g(hg:Gl X "enumerate")(hm:X.mg "enumerate"=none)(h:Y_)(hs:Ad_:=by rfl)(ax:Ae!:=by rfl):
  DI X own fi_ (.Call (.Name "enumerate" p) [a] [] pos) (Sb fa):=⟨by
 intro O s Z H R I ⟨G,ρ,ds,er,e,k⟩;obtain⟨d,e1,e2⟩:=GN.mp e;cases d<;>first|(cases e2;done)|skip
 rename_i x;cases e2;refine Call_ (kJ I hg hm boot_enumerate (JV (dA (dD h.ok fR hs pos O s Z H (λvs H1=>∃v G1,vs=[v]/\Cm G H G1 H1/\Ar X.K G1 cU_ v) I ⟨G,ρ,_,er,e1,λv G1 H1 x1 r1=>⟨v,G1,rfl,x1,r1⟩⟩) λus s1 ⟨vs,H1,I1,r1,v,G1,q1,x1,rr⟩=>?_) hs ax));subst q1;cases bY rr;obtain⟨u,rfl,t,rfl⟩:=rY r1;refine call_enumerate_str λh' he a9 hsz hk=>?_;refine wpAny_pyIter_enum he ?_;have I2:Inv X O Z H1 {s1 with heap:=h',toks:=s1.toks}:=I1.kept (t':=s1.toks) hk;have oq:∀b∈[A_+1,A_],A_<=b:=λb Y=>by
  simp only[GR,IJ,KL]at Y;obtain rfl|rfl:=Y<;>omega
 have fin:∀{St':dD!},St' 0 h'->(∀i h,St' i h->∃o,h.get? A_=some o/\∀v,o.data≠.cell v)->(∀A':Around,oQ_=none->Draws X.prog X.w A' s1.heap.objs.size [A_] x.cps.size Ab! St')->
   CS X O Z fi_ R (.ref (A_+1)) {s1 with heap:=h'}:=λ{St'} h0 hd D=>by
  refine⟨_,_,_,FP x,H1,rfl,I2,a7y (Nat.succ_ne_self _) hd D,⟨JA _,⟨_,he⟩,h0⟩,λb Y=>I1.fpOk (oq b Y) (I1.hok.fresh (oq b Y)),k _ G1 H1 x1 ?_⟩;intro i G' H' g1 g2;refine⟨dm!,λhi=>by rw[HG,List.length_zipIdx,JB]at hi;exact NC hi.symm⟩;rw[IB,List.getElem?_zipIdx]at hd;obtain⟨q,hq,rfl⟩:=GU.mp hd;obtain⟨c,hc,rfl⟩:=GU.mp hq;rw[LI]at hc;refine w9_;obtain⟨T,c',rfl,hT,bn,rfl⟩:=hy;rw[hc]at bn;cases bn;refine⟨_,Cm.laid g2 hT,fL (g2.free hT) (Am.cons ?_ (Am.cons Ar.str Am.nil))⟩;rw[NT];exact Ar.int
 cases ha:x.cps.all (·<128)
 .have m9:h'.IsStrIter s1.heap.objs.size "str_iterator" x t 0:=by simpa[strIterType,ha]using a9
  exact fin (St':=λi h=>h.IsStrIter s1.heap.objs.size "str_iterator" x t i) m9 Af! λA' hh=>Draws.strWide hh _ x t
 .have m9:h'.IsStrIter s1.heap.objs.size "str_ascii_iterator" x t 0:=by simpa[strIterType,ha]using a9
  exact fin (St':=λi h=>h.IsStrIter s1.heap.objs.size "str_ascii_iterator" x t i) m9 Af! λA' hh=>Draws.strAscii hh _ x t⟩
def Rt(a:Int)(n:Nat):List D:=(ol_).map λi=>.int (a+(i:Nat))
def Sa(f g:e_):Ad->Option aL!:=λρ=>(aj_).bind λx=>(g ρ).bind λy=>match x,y with|.int i,.int j=>if -1000<=i/\i<=100000/\-1000<=j/\j<=100000 then some (Rt i (j - i).toNat)else none|_,_=>none
end
end DL
namespace HT
open PySem PySem.Spec PyProof.Rows
def b6h(A:xX!)(s:z2!)(a:Int)(t:Tok)(c:Int)(u:Tok)(prog:z3!)(w:yt!)(E:n_)(Q:n_)(h:Q (.bool (decide (c<a))) s):
  wpAny q! A (richCompare .Gt gv! ne!) Q E s:=
 (PyProof.Rows.gt_int h:wpAny q! A (compareOp .Gt gv! ne!) Q E s)
section
open PySem.SeqAt
open PySem.AutoSeq1 (wpAny_loadPart')
open PySem.MeetsSeq PySem.MeetsSeq2 PySem.MeetsSeq3
def wZ(l b:xK!)(items jw:aa_)(n n2:Nat)(dd mi:aJ_)(sl gc:bP!)(ns ms:z!)(hi:Ag!)(hj:Ag_):
  Meets (Builtin.«tuple.__gt__» ⟨[.ref l,.ref b],[]⟩)
   (λ_ R s=>s.heap.get? l=some {cls:=.type "tuple",dict:=dd,data:=.seq items n,slots:=sl}/\s.heap.get? b=some {cls:=.type "tuple",dict:=mi,data:=.seq jw n2,slots:=gc}/\
    R (.ok (.ret p5_)) s):=
 .of_wp λprog w A R s h=>by
  obtain⟨hp,g,d,tk,os⟩:=s;obtain⟨hl,Y,h⟩:=h;have f2:=AutoSeq1.sub_tuple_tuple;have z1:c7!=c1!:=by rw[<-hi.length];simp
  have z2:jw.size=p6!:=by rw[<-hj.length];simp
  wp_walk using QC hl,QC Y,PV _ (λrest b s'=>b.1=none/\s'=hb!/\∃(vs ws:g_) (rg rh:z!),rest=vs.zip ws/\
   IntsAre vs rg/\IntsAre ws rh/\rg.length+jw.size=rh.length+c7!/\R (.ok (.ret (.bool (lexLt rh rg)))) hb!) _
  case turn=>
   rintro⟨y,x⟩ rest b s' ⟨b8,rfl,vs,ws,rg,rh,hz,zx,xa,ar,hR⟩;cases zx with
   |nil=>rw[List.zip_nil_left]at hz;cases hz
   |cons a t ZL=>
    cases xa with
    |nil=>rw[List.zip_nil_right]at hz;cases hz
    |cons c u ZM=>
     rw[OE]at hz;injection hz with ZN ZO
     injection ZN with hy hx
     subst hy hx;rw[lexLt_cons]at hR;simp only[HA]at ar;obtain⟨e,he,VD⟩:=b9w A.in1 hb! a t c u;refine GM (he prog w _ _ ?_);cases e with
     |true=>
      rw[HB (VD.mp rfl).symm]at hR
      wp_walk
      exact⟨rfl,rfl,_,_,_,_,ZO,ZL,ZM,u!,hR⟩
     |false=>
      rw[GS (λq=>absurd (VD.mpr q.symm) HM)]at hR;have ZP:=b6h A.in1 hb! a t c u prog w
      wp_walk using ZP
      exact⟨_,rfl,by simpa using hR⟩
  case fin=>
   rintro⟨b1,b2⟩ s' ⟨b8,rfl,vs,ws,rg,rh,hz,zx,xa,ar,hR⟩;simp only at b8;subst b8;have hv:lexLt rh rg=decide (jw.size<c7!):=by
    cases zx with
    |nil=>
     cases xa with
     |nil=>
      simp only[KD]at ar;rw[lexLt_nil_nil];exact(HF a!).symm
     |cons c u hw=>
      simp only[KD,HA]at ar;rw[vS];exact(HF a!).symm
    |cons a t hv=>
     cases xa with
     |nil=>
      simp only[KD,HA]at ar;rw[vR];exact(HY a!).symm
     |cons c u hw=>
      rw[OE]at hz;cases hz
   rw[hv]at hR
   wp_walk
   exact⟨_,rfl,by simpa[Builtin.Tuple.tupleCompareSizes]using hR⟩
  case h=>
   exact⟨rfl,rfl,items.toList,jw.toList,ns,ms,rfl,hi,hj,u!,h⟩
end
section
variable{prog:z3!}{w:yt!}{A:xX!}{E:Value->Shared->Prop}{s:z2!}
def gt_tupInts{b:xK!}{items jw:aa_}{ns ms:z!}{Q:n_}(hl:IsTup s.heap l items)(Y:IsTup s.heap b jw)(hi:Ag!)(hj:Ag_)
  (hu:aq!)(h:Q p5_ s):wpAny q! A (compareOp .Gt (.ref l) dP_) Q E s:=by
 obtain⟨⟨cls,dd,data,sl⟩,ho,hc,n,hd⟩:=id hl;obtain⟨⟨TN,mi,data2,gc⟩,jk,jl,n2,jm⟩:=id Y;simp only at hc hd jl jm;subst hc hd jl jm;exact richCompare_meets_room (op:=.Gt) i4! i4_ PySem.F.slot_tuple_gt PySem.F.entry_tuple_gt (PySem.F.args_tuple_gt_2 _ _) (wZ l b items jw n n2 dd mi sl gc ns ms hi hj)
  ⟨ho,jk,show Value.bool (lexLt ms ns)≠Value.notImplemented/\Q p5_ s from⟨(λx=>nomatch x),h⟩⟩ hu
end
end HT
namespace DL
open PySem PySem.Spec PyProof.Rows L2
section
variable{X:Cx}{own a8:List Nat}{a b e tg o:Expr}{es:List Expr}{p pos:Pos}{fa fb f:Ad->Option D}
def BA(K:z1!):R2:=λx y H Q=>∃a b ns ms,x=.ref a/\y=.ref b/\Gd K H a b9!/\Gd K H b (ms.map V.int)/\Q (.bl p7!) H
def c7a(hu:X.A.units<cLine):Gi X zr_ (BA X.K):=by intro O s Z H x y v u Q I rx ry h;obtain⟨a,b,ns,ms,rfl,rfl,ha,Y,q⟩:=h;cases rx;cases ry;obtain⟨its,r1,p1,_⟩:=I.tuple ha;obtain⟨gr,r2,p2,_⟩:=I.tuple Y;have i1:IntsAre its.toArray.toList ns:=wI r1;have i2:IntsAre gr.toArray.toList ms:=wI r2;exact HT.gt_tupInts p1 p2 i1 i2 hu ⟨.bl p7!,H,I,rfl,q⟩
def Ro:List D->Option (List Int)
 |[]=>some []
 |.int i::r=>(Ro r).map (i::·)
 |_=>none
def qP{K:z1!}{G:Hp}:∀{ds:a_} {vs:k!} {ns:z!},Am K G ds vs->Ro ds=some ns->vs=ns.map V.int
 |[],vs,ns,r,e=>by cases cM r;cases e;rfl
 |d::ds,vs,ns,r,e=>by
  obtain⟨v,t,rfl,r1,r2⟩:=bJ r;cases d<;>simp only[Ro]at e<;>first|(cases e;done)|skip
  obtain⟨l,e1,rfl⟩:=GU.mp e;rw[qP r2 e1];cases bA r1;rfl
def Zz:D->D->Option D
 |.tup xs,.tup ys=>(Ro xs).bind λns=>(Ro ys).map λms=>.bl p7!
 |_,_=>none
def c7i{K:z1!}:Ie K (BA K) Zz:=by
 show"!0";unfold Zz at e;show"!7"
 .obtain⟨ns,e1,e⟩:=GN.mp e;obtain⟨ms,e2,rfl⟩:=GU.mp e;show"!U";obtain⟨b,ws,rfl,qb,rb⟩:=bO ry;rw[qP ra e1]at qa;rw[qP rb e2]at qb;exact⟨a,b,ns,ms,rfl,rfl,jW!,ob!,d4_⟩
 .cases e
def b5a(hg:iu!)(hm:iu_)(ha:Y_)(Y:cA!)(hs:r2_:=by rfl)(bu:r3!:=by rfl)
  (dh:starEach (a::[b]) X.env=dF_::starEach [b] X.env:=by rfl)(jp:starEach (b::[]) X.env=iv!::starEach [] X.env:=by rfl):DI X own tg r3_ (Sa fa fb):=
 a7f (b3q hg hm (dD ha.ok (dD Y.ok fR jp) dh) hs bu) λZ G H R ρ ds er e k=>by
  obtain⟨x,e1,e3⟩:=GN.mp e;obtain⟨y,e2,e4⟩:=GN.mp e3;clear e e3;split at e4
  .rename_i i j;split at e4
   .rename_i h;cases e4;refine xU!;cases bA r1;cases bA r2;refine⟨i,j,rfl,u!,k _ G2 H2 dj_ ?_⟩;intro n G' H' g1 g2;unfold Rt;refine wt_;rw[IB]at hd;obtain⟨m,hj,rfl⟩:=GU.mp hd;obtain⟨hl,he⟩:=HC.mp hj;rw[NJ]at he;subst he;rw[KQ]at hl;refine⟨hl,fd!⟩;obtain⟨z1,z2⟩:=hy;subst z1 z2;exact⟨G',Cm.refl g2,Ar.int⟩
   .cases e4
  .cases e4
def Xf:V->List V->Hp->VK->Prop:=λx vs H Q=>∃l xs k y,x=.ref l/\vs=[.int (k:Nat),y]/\H l=some N!/\k<=i!/\i!<sizeLine/\Q .non (upd H l (.lst (xs.take k++y::xs.drop k)))
def b4g:CV X "list.insert" Xf:=by
 intro O s Z H x vs v us Q I rx rv h;obtain⟨l,xs,k,y,rfl,rfl,hH,hk,hz,q⟩:=h;cases rx;obtain⟨u,u2,rfl,⟨t,rfl⟩,ru⟩:=yJ rv;obtain⟨z,its,n,r,hl,e⟩:=I.lstM hH;have yu:¬(!Builtin.List.listFitsIndex (k:Int))=true:=by
  rw[fitsIndex_both (Int.le_trans d! (Int.natCast_nonneg k)) (Int.lt_of_le_of_lt (Int.ofNat_le.mpr (IE hk (LY hz))) wc_)];exact HM
 have hsz:a3!<=sizeLine:=by rw[GW];omega
 refine QI (S:=?S) PySem.F.slot_list_insert db! PySem.F.entry_list_insert (PySem.F.args_list_insert_3 _ _ _) ?g ?h
 case g=>exact @PySem.AutoSeq1.list_insert_list_int_val_1 l its.toArray n (k:Int) t u2 yu hsz
 refine eW_;refine⟨.non,_,I.lset (its':=its.take k++u2::its.drop k) hH e ?_ ((r.take k).append (.cons ru (r.drop k))) ?_,rfl,q⟩
 .have B:¬a9!<0:=by omega
  have J:min (a9!).toNat a3!=k:=by simp;omega
  simp only[B,IN,J];simp[List.extract_eq_drop_take];rw[PB c_]
 .simp only[HE,HA,OV,OX];omega
def Vw(i:Nat)(fk f:e_):Ad->Option Fl:=λρ=>(fk ρ).bind λx=>(aj_).bind λd=>match x,ρ[i]? with
 |.int j,some (some (.lst ds))=>if 0<=j/\j.toNat<=f_/\f_<big then some (.nx (ρ.set i (some (.lst (ds.take j.toNat++d::ds.drop j.toNat)))))else none
 |_,_=>none
def b4z{i:Nat}{x:Str}{aj ag:Pos}{fk:e_}(bq:dW_:=by decide)(hk:DE X own ek fk)(h:dj!)(hN:ad_:=by rfl)(hv:cp_:=by first|exact Or.inl rfl|exact Or.inr b!|exact Or.inr a4!)
  (hd:B_:=by decide)(bv:cq!:=by decide)
  (hst:starEach (ek::[e]) X.env=(false,eval ek X.env)::starEach [e] X.env:=by rfl)(ZQ:j8!:=by rfl)(iy:((backTo ag (starEach [ek,e] X.env)).all c9_&&(da!).all da_
   &&decide ([ek,e].length+(dS!).length+eV_<30))=true:=by rfl) (fg:c9!:=by rfl)
  (ez:attributeBase bk_ "insert" X.env j8_=eval bk_ X.env:=by rfl) (iz:(jn!).any b_=false:=by rfl) (fq:swapsWith Al_ none pos.line X.env=pure false:=by rfl):
  DS X own own (.Expr Al_ pos) (Vw i fk f):=⟨λG0 F0 O s Z H E I ⟨G,ρ,r,er,e',k⟩=>by
  refine oO (a5k LQ PySem.F.slot_list_insert PySem.F.type_list_insert b4g jP_ (dD hk.ok (dD h.ok fR ZQ) hst) ez iy fg hst iz) fq O s Z H E I ?_;obtain⟨z,e1,e4⟩:=GN.mp e';obtain⟨d,e3,e2⟩:=GN.mp e4;clear e' e4;obtain⟨p,ds,vs,B,J,h3,h4,h5⟩:=er.or.own_ i bq;rw[B]at e2;cases z<;>first|(cases e2;done)|skip
  rename_i j;simp only at e2;split at e2
  .rename_i hj;cases e2;refine⟨fe_,J,oA_,G,ρ,_,er.or,e1,λv G' H' x r=>⟨G',ρ,d,er.or.grow x,e3,λv2 G2 H2 x2 r2=>?_⟩⟩;cases bA r;have hl:=aJ h5;refine⟨p,vs,j.toNat,v2,rfl,?_,wQ!,u!,by rw[<-hl];exact HP hj.2.2 (cP x_),?_⟩
   .rw[Int.toNat_of_nonneg hj.1]
   .have h6:=(oB!).mono x2.g;exact k G2 Z _ (((g0!).grow x2).upd bq J (cW (mK _ h6) (Am.cons r2 (qQ _ h6))))
  .cases e2⟩
end
end DL
namespace DL
open PySem PySem.Spec PyProof.Rows L2
section
variable{X:Cx}{own a8:List Nat}{a b e tg o:Expr}{es:List Expr}{p p2 pos:Pos}{fa fb fo f:WE}{fs:WA}
def Vt(i:Nat)(f:WE):WS:=λρ M R=>f ρ M λd M1=>El pC_ λq=>match ρ[i]? with
 |some (some (.lst ds))=>f_+kV_<=big/\R (.nx (ρ.set i (some (.lst (ds++q.2))))) M1
 |_=>False
def b4j{i:Nat}{x:Str}{aj ag:Pos}(bq:dW_:=by decide)(h:bH!)(hN:ad_:=by rfl)(hv:cp_:=by first|exact Or.inl rfl|exact Or.inr b!|exact Or.inr a4!)
  (hd:B_:=by decide)(bv:cq!:=by decide)
  (hst:j8!:=by rfl)(iy:((jn!).all c9_&&(da!).all da_
   &&decide wL_)=true:=by rfl) (fg:c9!:=by rfl)
  (ez:attributeBase bk_ "extend" X.env j8_=eval bk_ X.env:=by rfl) (iz:j9!:=by rfl) (fq:swapsWith An! none pos.line X.env=pure false:=by rfl):
  MS X own own (.Expr An! pos) (Vt i f):=
 oY (oO (a5k LQ PySem.F.slot_list_extend PySem.F.type_list_extend b4h jP_ wM_ ez iy fg hst iz) fq) λM0 G0 F0 E Z G H ρ M R sr e' k1 k2=>by
  obtain⟨p,ds,vs,B,J,h3,h4,h5⟩:=sr.st.or.own_ i bq;refine⟨fe_,J,oA_,G,ρ,M,_,sr.st,e',zG!⟩;obtain⟨⟨c,zs⟩,e1,r⟩:=cS r;obtain⟨z1,z2,z3,us,h6,h7⟩:=pZ m q e1;cases z2;rw[B]at r;have dm:=sr.grow x m;obtain⟨p',uf,gh,g1,g2,g3,g4,g5⟩:=dm.st.or.own_ i bq;rw[J]at g2;cases g2;rw[B]at g1;cases g1;refine⟨p,c,gh,us,rfl,rfl,g3,h6,?_,k1 _ M' G' Z _ r.2 (dm.after (dm.sr.upd bq J (cW g5 h7)))⟩;have:=r.1;rw[<-aJ g5,<-aJ h7];exact cP this
def Vr(fs:WA)(fb:WE):WE:=λρ M R=>fs ρ M λds M1=>f_<=1000/\fb ρ M1 λy M2=>match y with
 |.int k=>(0<=k/\k<=1000/\f_*k.toNat<=1000)/\∀p,M2 p=none->R C_ (Az M2 p (.lst (List.replicate k.toNat ds).flatten))
 |_=>False
def b9t{G H:Hp}{p:xK!}{o:HO}(s:L!)(hp:cy_):Cm G H G e5_:=⟨e6!,iD hp,s.trans (iD hp),dm_⟩
def a4x{K:z1!}{G:Hp}(r:g0_):∀k:Nat,Am K G (List.replicate k ds).flatten (List.replicate k vs).flatten
 |0=>Am.nil
 |k+1=>by
  rw[KU,KU,ML,ML];exact cW r (a4x r k)
def c3c(ha:kJ!)(Y:cK!):ME X own (.BinOp (.List es p2) .Mult b pos) (Vr fs fb):=
 eS (b7h c6u (a1a ha.ok) Y.ok) λZ G H Q ρ M R st e k=>⟨G,ρ,M,_,st,e,λds M1 vs G1 H1 r1 x1 m1 q1=>⟨by rw[<-aJ q1];exact gN r1.1,λp hp=>by
  have xj:Cm G1 H1 G1 (upd H1 p dg_):=b9t x1.sub hp;have hM:M1 p=none:=m1.nocell hp;refine⟨G1,ρ,M1,_,(fw!).grow (.ext xj) (m1.ext xj),r1.2,λy M2 v G2 H2 r2 x2 m2 q2=>?_⟩;cases y<;>first|exact r2.elim|skip
  rename_i n;cases bA q2;obtain⟨⟨hn,j9,hl⟩,r2⟩:=r2;have ZR:H2 p=some dg_:=x2.keep p _ bR hM;refine⟨p,n,vs,rfl,rfl,ZR,u!,u!,by rw[<-aJ q1];exact gN hl,ku_⟩;have ZS:=(x1.trans (.ext xj) m1).trans x2 (m1.ext xj);exact k _ _ _ G2 _ (r2 c (m2.nocell hc)) (ZS.trans (.laid x2.sub hc) m2) (m2.laid hc x2.sub ⟨_,bR,a4x ci! _⟩) Ar.fn⟩⟩
end
nonrec def rk(r:fB_)(xs:cm_)(i:Nat):Int:=(xs[i]?.map r).getD 0
def b6e{r:fB_}{xs:cm_}{c d:Nat}(hs:c<xs.size)(hd:d<=c)(k:Nat):rk r (bubble xs c d) k=if k=c - d then rk r xs c else if c - d<k/\k<=c then rk r xs (k - 1)else rk r xs k:=by
 unfold rk;rw[getElem?_bubble hs d hd k];split
 .rfl
 .split<;>rfl
def a8l{r:fB_}{xs:cm_}{i j:Nat}(hj:j<=xs.size)(k:Nat):rk r Aq! k=if i<=k/\k<j then rk r xs (i+j - 1 - k)else rk r xs k:=by unfold rk;rw[getElem?_mirror_all hj k];split<;>rfl
def oJ{r:fB_}{xs:cm_}{i j:Nat}(hj:j<=xs.size)(he:∀k,i<=k->k<j->rk r xs k=rk r xs em_)(k:Nat):rk r Aq! k=rk r xs k:=by
 rw[a8l hj];by_cases h:i<=k/\k<j
 .rw[HB h,he _ a! a!,he k h.1 h.2]
 .rw[GS h]
def Up(r:fB_)(xs:cm_)(n:Nat):Prop:=∀i j,i<=j->j<n->rk r xs i<=rk r xs j
def Dn(r:fB_)(xs:cm_)(n:Nat):Prop:=∀i j,i<=j->j<n->rk r xs j<=rk r xs i
structure SB(kd:SortKind)(a0:cm_)(st:SortSt):Prop where
 pm:(D!).Perm a0
 kn:kindOf st=kd
 fl:failedOf st=none
 pd:pendingOf st=#[]
def SB.sz{kd:SortKind}{a0:cm_}{st:SortSt}(h:cn!):(D!).size=a0.size:=h.pm.size_eq
def SB.put{kd:SortKind}{a0 xs:cm_}{st:SortSt}(h:cn!)(hp:xs.Perm D!):SB kd a0 (setArr st xs):=⟨hp.trans h.pm,h.kn,h.fl,h.pd⟩
section
variable{prog:z3!}{w:yt!}{A:xX!}{E:Value->Shared->Prop}{s:z2!}{a0:Array Keyed}{kd:SortKind}{r:Keyed->Int}
variable (prog w A s a0 kd r)in
def Tq:Prop:=∀(x y:Keyed) (F:n_) (Q:dq!),x∈hF_->y∈hF_->Q (decide (r x<r y)) s->wpAny q! A (keyLt' kd x.1 y.1) Q F s
def b6b{st:SortSt}{i j:Nat}{Q:Option Bool->SortSt->Prop}(hl:dv_)(b:cn!)(hi:i<a0.size)(hj:j<a0.size)(h:Q (some (decide (rk r D! i<rk r D! j))) st):wpS q! A E s (ltAt' i j) Q st:=by
 have at_:∀k,k<a0.size->∃p,D![k]?=some p/\p∈hF_/\rk r D! k=r p:=λk hk=>by
  have cx:k<(D!).size:=by rw[b.sz];exact hk
  refine⟨D![k],Ar_,(Array.perm_iff_toList_perm.mp b.pm).mem_iff.mp c_,?_⟩;unfold rk;rw[Ar_];rfl
 obtain⟨x,ex,mx,rx⟩:=at_ i hi;obtain⟨y,ey,my,ry⟩:=at_ j hj;rw[rx,ry]at h;rw[ltAt'_eq];refine JG fC!;show wpS q! A E s (elem' D! i>>=λx=>elem' D! j>>=λy=>lt' x y) Q st;rw[elem'_eq,elem'_eq,ex,ey];refine JG (LB (JG (LB ?_)));rw[lt'_eq];refine JG fC!;rw[b.kn];exact JG (wpS_lift (OF (hl x y _ _ mx my ⟨rfl,LB h⟩)))
def c5b{st:SortSt}{a n:Nat}{Q:AscSt->SortSt->Prop}(hl:dv_)(hn:fC_)(ha:1<=a)(zy:a<=n)(b:cn!)(hu:Up r D! a)
  (h:∀m,a<=m->m<=n->Up r D! m->(m=n\/rk r D! m<rk r D! hH!)->Q (none,m) st):wpS q! A E s (ascLoop a n) Q st:=by
 unfold ascLoop;refine PZ (I:=λx c h1=>h1=st/\c=(none,x)/\Up r D! x) ?_ ?_ ⟨rfl,rfl,hu⟩
 .rintro x c h1 B J ⟨rfl,rfl,u⟩;refine JG (b6b hl b (HP J hn) a! ?_);by_cases q:rk r z_ x<rk r z_ hH_
  .rw[HY q];exact LB (h x B (LY J) u (.inr q))
  .rw[HF q];refine LB ⟨rfl,rfl,At!⟩;obtain h5|h5:=LD j x
   .exact u i j h3 h5
   .have:j=x:=by omega
    subst this;obtain h6|h6:=LD i j
    .have:=u i em_ a! a!;omega
    .have:i=j:=by omega
     rw[this];exact LL _
 .rintro c h1 ⟨rfl,rfl,u⟩;rw[show max a n=n by omega]at u ⊢;exact h n zy x_ u aF_
def b5y{st:SortSt}{m n:Nat}{Q:qb_}(hl:dv_)(hn:fC_)(B:1<=m)(hm:m<=n)(b:cn!)(hd:Dn r D! m)
  (h:qc!):wpS q! A E s (tail3 m n) Q st:=by
 unfold tail3;have b':SB kd a0 (setArr st (mirror D! 0 m ((m - 0) / 2))):=b.put lf!;have hz:m<=(D!).size:=by rw[b.sz];omega
 refine JG (wpS_reverse (JG (c5b hl hn B hm b' (λi j h3 h4=>?_) λk h3 h4 u _=>LB (h k _ b' a! h4 u))));rw[a8l hz,a8l hz,a8_,a8_];exact hd _ _ a! a!
def c6d{st:SortSt}{m n:Nat}{Q:DescSt->SortSt->Prop}(hl:dv_)(hn:fC_)(B:1<=m)(hm:m<=n)(b:cn!)(hd:Dn r D! m)
  (h:∀k q h1,SB kd a0 h1->m<=k->k<=n->Dn r z_ k->q+1<=k->(∀i,k - (q+1)<=i->i<k->rk r z_ i=rk r z_ (k - 1))->Q (none,k,q) h1):wpS q! A E s (descLoop m n) Q st:=by
 unfold descLoop;refine PZ (I:=λx c h1=>∃q,c=(none,x,q)/\SB kd a0 h1/\Dn r z_ x/\q+1<=x/\∀i,x - (q+1)<=i->i<x->rk r z_ i=rk r z_ hH_) ?_ ?_ ⟨0,rfl,b,hd,u!,λi J h3=>by rw[show i=m - 1 by omega]⟩
 .rintro x c h1 J h3 ⟨q,rfl,b',d,hq,he⟩;have hz:x<=(z_).size:=by rw[b'.sz];omega
  refine JG (b6b hl b' (HP h3 hn) Au_ ?_);by_cases p:rk r z_ x<rk r z_ hH_
  .rw[HY p];have qg:∀xs:Array Keyed,(∀k,rk r xs k=rk r z_ k)->Dn r xs (x+1):=λxs hk i j h4 h5=>by
    rw[hk,hk];obtain h6|h6:=LD j x
    .exact d i j h4 h6
    .have:j=x:=by omega
     subst this;obtain h7|h7:=LD i j
     .have:=d i em_ a! a!;omega
     .show"#6"
   by_cases ur:q>0
   .simp only[IU,ur];exact JG (wpS_reverse (LB ⟨0,rfl,b'.put lf!,qg _ (oJ hz he),u!,Av!⟩))
   .simp only[IU,ur,IN];exact LB ⟨0,rfl,b',qg _ λ_=>rfl,u!,Av!⟩
  .rw[HF p];show"#!";refine JG (b6b hl b' Au_ (HP h3 hn) ?_);by_cases p2:rk r z_ hH_<rk r z_ x
   .rw[HY p2];exact LB (h x q h1 b' J (LY h3) d hq he)
   .rw[HF p2];have ex:rk r z_ x=rk r z_ hH_:=by omega
    refine LB ⟨q+1,rfl,b',λi j h4 h5=>?_,u!,λi h4 h5=>?_⟩
    .obtain h6|h6:=LD j x
     .exact d i j h4 h6
     .have:j=x:=by omega
      subst this;obtain h7|h7:=LD i j
      .rw[ex];exact d i em_ a! a!
      .show"#6"
    .rw[show x+1 - 1=x by omega];obtain h6|h6:=LD i x
     .rw[ex];exact he i a! h6
     .rw[show i=x by omega]
 .rintro c h1 ⟨q,rfl,b',d,hq,he⟩;rw[show max m n=n by omega]at d hq he ⊢;exact h n q h1 b' hm x_ d hq he
def b6a{st:SortSt}{m n:Nat}{Q:qb_}(hl:dv_)(hn:fC_)(hm:m+1<=n)(b:cn!)(hd:Dn r D! (m+1))
  (h:qc!):wpS q! A E s (descPart m n) Q st:=by
 unfold descPart;refine JG (wpS_lift (KN ⟨rfl,JG (c6d hl hn a! hm b hd λk q h1 b' B J d hq he=>?_)⟩));by_cases ur:q>0
 .simp only[IU,ur];refine JG (wpS_reverse (b5y hl hn a! J (b'.put lf!) (λi j h4 h5=>?_) h));have hz:k<=(z_).size:=by rw[b'.sz];omega
  rw[oJ hz he,oJ hz he];exact d i j h4 h5
 .simp only[ur,IN];exact b5y hl hn a! J b' d h
def c1w{st:SortSt}{n:Nat}{Q:qb_}(hl:dv_)(hn:fC_)(B:1<=n)(b:cn!)(h:qc!):
  wpS q! A E s (countRun' 0 n) Q st:=by
 rw[countRun0_eq];refine JG (c5b hl hn (HL 1) B b (λi j h3 h4=>by rw[fD!];exact LL _) λm h3 h4 u ZT=>?_);by_cases e:m=n
 .simp only[MH,e,IU];rw[<-e];exact LB Av_
 .have ao:rk r D! m<rk r D! hH!:=ZT.resolve_left e;simp only[MH,e,IN];by_cases hg:m>1
  .simp only[hg,IU];refine JG (b6b hl b a! a! ?_);by_cases p:rk r D! 0<rk r D! hH!
   .rw[HY p];exact LB Av_
   .rw[HF p];have ut:∀k,0<=k->k<m->rk r D! k=rk r D! hH!:=λk _ hk=>by
     have a1:=u 0 k a! hk;have a2:=u k hH! a! a!;omega
    have hz:m<=(D!).size:=by rw[b.sz];omega
    refine JG (wpS_reverse (b6a hl hn a! (b.put lf!) Aw! h));rw[oJ hz ut,oJ hz ut];obtain h7|h7:=LD j m
    .rw[ut i a! a!,ut j a! h7];exact LL _
    .have:j=m:=by omega
     subst this;obtain h8|h8:=LD i j
     .rw[ut i a! h8];omega
     .show"#6"
  .simp only[hg,IN];have:m=1:=by omega
   subst this;refine b6a hl hn a! b Aw! h;obtain h8|h8:=LD i j
   .rw[show i=0 by omega,show j=1 by omega];exact Int.le_of_lt ao
   .show"#6"
def c7q{lo hi k x n:Nat}(h:¬lo>=hi)(g2:hi<=k)(g3:hi - lo<=k - x)(hk:k<n):lo<=cN! / 2/\cN! / 2<hi/\cN! / 2<k/\cN! / 2<n/\cN! / 2 - lo<=k - (x+1)/\hi - (cN! / 2+1)<=k - (x+1):=by omega
def d0d{st:SortSt}{n k0:Nat}{Q:Bool->SortSt->Prop}(hl:dv_)(hn:fC_)(hk:k0<=n)(b:cn!)(hu:Up r D! k0)(h:∀h1,SB kd a0 h1->Up r z_ n->Q true h1):
  wpS q! A E s (binarySort' 0 n k0) Q st:=by
 rw[binarySort'_eq];simp only[NT];refine JG (wpS_mono (PZ (I:=λk c h1=>c=fo!/\SB kd a0 h1/\Up r z_ (min k n)) (Q:=λc h1=>c=fo!/\SB kd a0 h1/\Up r z_ n) ?_ ?_ ⟨rfl,b,At!⟩) ?_)
 .rintro k c h1 J h3 ⟨rfl,b',u⟩;rw[show min k n=k by omega]at u;have lj:k<a0.size:=by omega
  refine JG (wpS_mono (PZ (I:=λx c bi=>bi=h1/\∃lo hi,c=(none,lo,hi)/\lo<=hi/\hi<=k/\hi - lo<=k - x/\Aw_/\∀i,hi<=i->i<k->rk r z_ k<rk r z_ i)
   (Q:=λc bi=>bi=h1/\∃lo hi,c=(none,lo,hi)/\lo<=k/\Aw_/\∀i,lo<=i->i<k->rk r z_ k<rk r z_ i) ?_ ?_ ⟨rfl,0,k,rfl,u!,u!,u!,λi hi=>by omega,λi h4 h5=>by omega⟩) ?_)
  .rintro x c bi h4 h5 ⟨rfl,lo,hi,rfl,g1,g2,g3,g4,g5⟩;dsimp only;by_cases zz:lo>=hi
   .rw[HB zz];have:lo=hi:=by omega
    subst this;exact LB Ay!
   .rw[GS zz];obtain⟨m1,m2,m3,m4,m5,m6⟩:=c7q zz g2 g3 lj;refine JG (b6b hl b' lj m4 ?_);by_cases p:rk r en! k<rk r en! qd!
    .rw[HY p];exact LB ⟨rfl,lo,cN! / 2,rfl,m1,LY m3,m5,g4,λi h6 h7=>Int.lt_of_lt_of_le p (u qd! i h6 h7)⟩
    .rw[HF p];exact LB ⟨rfl,cN! / 2+1,hi,rfl,m2,g2,m6,λi h6=>Int.le_trans (u i qd! (Nat.le_of_lt_succ h6) m3) (Int.not_lt.mp p),g5⟩
  .rintro c bi ⟨rfl,lo,hi,rfl,g1,g2,g3,g4,g5⟩;have:lo=hi:=by omega
   subst this;exact Ay!
  .rintro c bi ⟨rfl,lo,hi,rfl,g1,g4,g5⟩;rw[moveDown'_eq];refine JG (wpS_modify (LB ⟨rfl,b'.put (bubble_perm _ _ _),λi j h6 h7=>?_⟩));rw[show min Q_ n=k+1 by omega]at h7;have ou:k<(en!).size:=by rw[b'.sz];exact lj
   rw[b6e ou a!,b6e ou a!,show k - (k - lo)=lo by omega];have n1:∀m,m<lo->rk r en! m<=rk r en! k:=g4;have n2:∀m,lo<=m->m<k->rk r en! k<rk r en! m:=g5;by_cases ei:i=lo
   .rw[HB ei];by_cases ej:j=lo
    .rw[HB ej];exact LL _
    .rw[GS ej];by_cases fj:lo<j/\j<=k
     .rw[HB fj];exact Int.le_of_lt (n2 em_ a! a!)
     .omega
   .rw[GS ei];by_cases fi:lo<i/\i<=k
    .rw[HB fi,GS a!,a8_];exact u (i - 1) em_ a! a!
    .rw[GS fi];by_cases ej:j=lo
     .rw[HB ej];exact n1 i a!
     .rw[GS ej];by_cases fj:lo<j/\j<=k
      .rw[HB fj];exact u i em_ a! a!
      .rw[GS fj];exact u i j h6 a!
 .rintro c h1 ⟨e,b',u⟩;rw[show min (max (max k0 1) n) n=n by omega]at u;exact⟨e,b',u⟩
 .by_cases h0:k0=0
  .show"#6"
  .exact hu i j h3 a!
 .rintro c h1 ⟨rfl,b',u⟩;exact LB (h h1 b' u)
def b5z{st:SortSt}{Q:Unit->SortSt->Prop}(hl:dv_)(b:cn!)(J:2<=a0.size)(oz:a0.size<64)
  (h:∀h1,(z_).Perm a0->failedOf h1=none->Up r z_ a0.size->Q () h1):wpS q! A E s sortRuns' Q st:=by
 rw[sortRuns'_eq];refine JG fC!;have ZU:minRun' a0.size a0.size 0=a0.size:=by
  have:∀f,minRun' (f+1) a0.size 0=a0.size:=λf=>by rw[minRun'_succ,HB oz];rfl
  have q:=this (a0.size - 1);rwa[show a0.size - 1+1=a0.size by omega]at q
 dsimp only;simp only[b.sz,ZU];have fin:∀{h1:SortSt},SB kd a0 h1->Up r z_ a0.size->(arrOf lg_).Perm a0/\failedOf lg_=none/\pendingOf lg_=#[lg!]/\Up r (arrOf lg_) a0.size:=
  λ{h1} b' u=>⟨b'.pm,b'.fl,by show(Az!).push _=_;rw[b'.pd];rfl,u⟩
 refine JG (wpS_mono (PZ (I:=λx c h1=>(x=0/\c=(none,0)/\SB kd a0 h1)\/(1<=x/\c=Az_/\(z_).Perm a0/\failedOf h1=none/\pendingOf h1=#[lg!]/\Up r z_ a0.size))
  (Q:=λc h1=>c=Az_/\(z_).Perm a0/\failedOf h1=none/\pendingOf h1=#[lg!]/\Up r z_ a0.size) ?_ ?_ (.inl ⟨rfl,rfl,b⟩)) ?_)
 .rintro x c h1 _ hx (⟨rfl,rfl,b'⟩|⟨_,rfl,d⟩)
  .dsimp only;rw[GS a!];simp only[Nat.sub_zero,Nat.min_self,NT];refine JG (c1w hl x_ a! b' λm bi b2 g1 g2 u2=>?_);by_cases ao:m<a0.size
   .simp only[ao,IU];refine JG (wpS_lift (KN ⟨rfl,JG (d0d hl x_ g2 b2 u2 λwb b3 u3=>?_)⟩));simp only[KC,HX,IN];refine JG fC!;rw[show(pendingOf wb).back?=none by rw[b3.pd];rfl];exact JG (wpS_modify (LB (.inr ⟨HL 1,rfl,fin b3 u3⟩)))
   .simp only[ao,IN];have:m=a0.size:=by omega
    subst this;refine JG fC!;rw[show(pendingOf bi).back?=none by rw[b2.pd];rfl];exact JG (wpS_modify (LB (.inr ⟨HL 1,rfl,fin b2 u2⟩)))
  .dsimp only;rw[HB x_];exact LB ⟨rfl,d⟩
 .rintro c h1 (⟨hx,_⟩|⟨_,e,d⟩)
  .omega
  .exact⟨e,d⟩
 .rintro c h1 ⟨rfl,d1,d2,d3,d4⟩;refine JG (wpS_mono (PZ (I:=λ_ c bi=>bi=h1/\c=fo!) (Q:=λc bi=>bi=h1/\c=fo!) ?_ AB! bL_) ?_)
  .rintro x c bi _ _ ⟨rfl,rfl⟩;refine JG fC!;rw[HB (by rw[d3];exact HL 1)];exact LB bL_
  .rintro c bi ⟨rfl,rfl⟩;exact LB (h _ d1 d2 d4)
end
abbrev Xc:Bool->SortKind:=sortPriv%PySem.Builtin.KeyKind.tuples
section
variable{prog:z3!}{w:yt!}{A:xX!}{E:Value->Shared->Prop}{s:z2!}
def Hd(h:Heap)(v:ys!)(a b:Int):Prop:=∃(p:xK!) (o:Obj) (n:Nat) (t u:Tok),v=.ref p/\h.get? p=some o/\o.cls=.type "tuple"/\o.data=.seq #[.int a t,.int b u] n
def BF(a b c d:Int):Bool:=if a=c then decide (b<d)else decide (a<c)
def yV{f:Bool}{a b:Int}{Q:dq!}(h:Q (decide (a<b)) s):wpAny q! A (oneLt' f gv! (.int b u)) Q E s:=by
 cases f with
 |true=>exact oneLt_int h
 |false=>
  rw[oneLt'_eq];rw[GS HM];refine GM (show wpAny q! A (compareOp .Lt gv! (.int b u)) _ E s from PyProof.Rows.lt_int ?_);exact IS h
def wE{f:Bool}{a b c d:Int}{Q:dq!}(hx:Hd s.heap x a b)(hy:Hd s.heap y c d)(h:Q (BF a b c d) s):wpAny q! A (keyLt' (Xc f) x y) Q E s:=by
 obtain⟨p,o,n,t,u,rfl,B,_,J⟩:=hx;obtain⟨p',o',n',t',u',rfl,k8,_,ow⟩:=hy;refine GM (QA B J (GM (QA k8 ow gg_)));show wpAny q! A (forIn [((Value.int a t,Value.int c t'),0),((Value.int b u,Value.int d u'),1)] _ _) _ E s;rw[KY];refine GM (GM (OT a t c t' _ _ _ _ ?_));unfold BF at h;by_cases e:a=c
 .rw[HB e]at h;have e1:(a==c)=true:=by simpa using e
  rw[e1];simp only[KC,HX,IN];refine GO ?_;dsimp only;rw[KY];refine GM (GM (OT b u d u' _ _ _ _ ?_));by_cases e2:b=d
  .have e3:(b==d)=true:=by simpa using e2
   rw[e3];simp only[KC,HX,IN];refine GO ?_;dsimp only;rw[NQ];refine GO X!;have e4:decide (b<d)=false:=by rw[e2];simp
   rw[e4]at h;simpa using h
  .have e3:(b==d)=false:=by simpa using e2
   rw[e3];simp only[OH,IU];exact GM (yV (GO kB!))
 .rw[GS e]at h;have e1:(a==c)=false:=by simpa using e
  rw[e1];simp only[OH,IU];exact GM (yV (GO kB!))
def b0k{α β:Type}{f:α->Sem β}{F:cQ_}{Q:Array β->Shared->Prop}:∀(xs:H_),AD!->(∀ys,Paired F xs ys->Q ys.toArray s)->wpAny q! A (xs.toArray.mapM f) Q E s:=by
 intro xs hf hq;rw[Array.mapM_eq_mapM_toList];have li:∀(xs:H_) (R:List β->Shared->Prop),AD!->(∀ys,Paired F xs ys->R ys s)->wpAny q! A (xs.mapM f) R E s:=by
  intro xs
  induction xs with
  |nil=>
   intro R _ h;rw[List.mapM_nil];exact GO (h [] .nil)
  |cons x xs ih=>
   intro R B J;rw[List.mapM_cons];refine GM (B x GX _ λy hy=>GM (ih _ (λz hz=>B z qf_) λys rj=>GO (J _ (.cons hy rj))))
 have:(List.toArray<$>xs.toArray.toList.mapM f:Sem (Array β))=(xs.toArray.toList.mapM f>>=λl=>pure l.toArray):=by rw[map_eq_pure_bind]
 rw[this];exact GM (li _ _ (by simpa using hf) λys rj=>GO (hq ys (by simpa using rj)))
def a6k{vs:g_}{Q:SortKind->Shared->Prop}(h:∀v∈vs,∃a b,Hd s.heap v a b)(h0:vs≠[])(hq:Q (Xc true) s):wpAny q! A (keyKind' cv!) Q E s:=by
 refine GM (b0k (F:=λ_ y=>∃a t,y=some lh!) vs AE! λys rj=>?_)
 .obtain⟨a,b,p,o,n,t,u,rfl,B,J,h3⟩:=h v hv;refine GM (wpAny_typeOf (T:="tuple") oh! ?_);rw[GS d!];exact GM (QA B h3 (GO (hR _ ⟨a,t,rfl⟩)))
 .have gu:∀y∈ys,∃a t,y=some lh!:=by
   have li:∀{l:g_} {m:List sC!},Paired (λ_ y=>∃a t,y=some lh!) l m->∀y∈m,∃a t,y=some lh!:=by
    intro l m hp
    induction hp with
    |nil=>intro y hy;cases hy
    |cons q _ ih=>
     intro y hy;obtain rfl|hy:=GR.mp hy
     .exact q
     .exact ih y hy
   exact li rj
  have hne:ys≠[]:=λz=>by subst z;cases rj;exact h0 rfl
  rw[HB (by rw[List.all_toArray,JR];intro y hy;obtain⟨a,t,rfl⟩:=gu y hy;rfl)];refine GM g8!;have hints:∀v∈(AF!).toList,∃a t,v=Value.int a t:=λv hv=>by
   simp only[List.filterMap_toArray,LW,id]at hv;obtain⟨y,hy,e⟩:=hv;obtain⟨a,t,e2⟩:=gu y hy;rw[e2]at e;exact⟨a,t,(IR e).symm⟩
  have hz:(AF!).toList≠[]:=λz=>by
   cases ys with
   |nil=>exact hne rfl
   |cons y r=>
    obtain⟨a,t,rfl⟩:=gu y GX;simp at z
  generalize hZ:ys.toArray.filterMap id=ZV at hints hz ⊢;obtain⟨zs⟩:=ZV;refine GM ?_;refine GM (b0k (F:=λ_ y=>y=Value.type "int") zs AE! λts VE=>?_)
  .obtain⟨a,t,rfl⟩:=hints v i5!;exact wpAny_typeOf (typeIs_int s a t) (hR _ rfl)
  .have VF:∀t∈ts,t=Value.type "int":=by
    have li:∀{l m:g_},Paired (λ_ y=>y=Value.type "int") l m->∀y∈m,y=Value.type "int":=by
     intro l m hp
     induction hp with
     |nil=>intro y hy;cases hy
     |cons q _ ih=>
      intro y hy;obtain rfl|hy:=GR.mp hy
      .exact q
      .exact ih y hy
    exact li VE
   cases ts with
   |nil=>cases VE;exact absurd rfl hz
   |cons t r=>
    have ht:=VF t GX;subst ht;have e1:((AH!).toArray)[0]?=some (Value.type "int"):=rfl;rw[e1];have e2:((AH!).toArray.all λx=>x==Value.type "int")=true:=by
     rw[List.all_toArray,JR];intro y hy;rw[VF y hy];rfl
    dsimp only;rw[HB e2];exact GO (GO hq)
end
def Kl(p q:dw_):Bool:=BF p.1 p.2 q.1 q.2
def tW{p q:dw_}:Kl p q=true↔(p.1<q.1\/(p.1=q.1/\p.2<q.2)):=by
 unfold Kl BF;split
 .rename_i h;rw[IF];omega
 .rename_i h;rw[IF];omega
def b1y(p:dw_):Kl p p=false:=by
 cases h:Kl p p with
 |false=>rfl
 |true=>have:=tW.mp h;omega
def jO{p q r:dw_}(B:Kl p q=true)(J:Kl q r=true):Kl p r=true:=by rw[tW]at B J ⊢;omega
def a1x{p q:dw_}(h:p≠q)(B:Kl p q=false):Kl q p=true:=by
 have k8:¬Kl p q=true:=by rw[B];simp
 rw[tW]at k8 ⊢;have:¬(p.1=q.1/\p.2=q.2):=λz=>h (Prod.ext z.1 z.2);omega
section
variable{α:Type}(kf:α->Int×Int)
def Qo(x:α):List α->List α
 |[]=>[x]
 |y::r=>if Kl (kf x) (kf y)then x::y::r else y::Qo x r
def Iq:List α->List α
 |[]=>[]
 |x::r=>Qo kf x (Iq r)
def Oi(l:H_):Prop:=l.Pairwise λx y=>Kl (kf x) (kf y)=true
variable {kf}
def rK(x:α):∀l:List α,(Qo kf x l).Perm (x::l)
 |[]=>NR _
 |y::r=>by
  unfold Qo;split
  .exact NR _
  .exact((rK x r).cons y).trans (List.Perm.swap x y r)
def cG:∀l:List α,(Iq kf l).Perm l
 |[]=>NR _
 |x::r=>(rK x _).trans ((cG r).cons x)
def wK{x:α}:∀{l:H_},Oi kf l->(∀y∈l,kf x≠kf y)->Oi kf (Qo kf x l)
 |[],_,_=>List.pairwise_singleton _ _
 |y::r,h,hn=>by
  unfold Qo;unfold Oi at h;rw[JM]at h;split
  .rename_i ao;refine JM.mpr ⟨lh_,JM.mpr h⟩;obtain rfl|hz:=GR.mp hz
   .exact ao
   .exact jO ao (h.1 z hz)
  .rename_i ao;refine JM.mpr ⟨lh_,wK h.2 λz hz=>hn z qf_⟩;obtain rfl|hz:=GR.mp ((rK x r).mem_iff.mp hz)
   .exact a1x (hn y GX) yq_
   .exact h.1 z hz
def jG:∀{l:H_},(l.map kf).Nodup->Oi kf (Iq kf l)
 |[],_=>jp!
 |x::r,h=>by
  rw[GY,HH]at h;refine wK (jG h.2) λy hy e=>h.1 ?_;rw[e];exact GV ((cG r).mem_iff.mp hy)
def oH:∀{l m:H_},Oi kf l->Oi kf m->l.Perm m->l=m
 |[],m,_,_,h=>(List.Perm.nil_eq h)
 |x::l,m,B,J,h=>by
  cases m with
  |nil=>exact absurd h.length_eq c_
  |cons y m=>
   have e:x=y:=by
    obtain e|hx:=GR.mp (h.mem_iff.mp GX)
    .exact e
    .obtain e|hy:=GR.mp (h.symm.mem_iff.mp GX)
     .exact e.symm
     .have a1:=(JM.mp B).1 y hy;have a2:=(JM.mp J).1 x hx;have:=jO a1 a2;rw[b1y]at this;cases this
   subst e;rw[oH (JM.mp B).2 (JM.mp J).2 ((List.perm_cons x).mp h)]
def b7e{β:Type}{f:li!}{l m:dy_}(h:l.Perm m):∀{L:H_},m=L.map f->∃L':List α,L'.Perm L/\L'.map f=l:=by
 induction h with
 |nil=>intro L e;exact⟨[],by rw[List.map_eq_nil_iff.mp e.symm],rfl⟩
 |cons x _ ih=>
  intro L e;cases L with
  |nil=>cases e
  |cons y L=>
   injection e with e1 e2
   obtain⟨L',B,J⟩:=ih e2;exact⟨y::L',B.cons y,by rw[GY,J,e1]⟩
 |swap x y l=>
  intro L e
  match L,e with
  |a::b::L,e=>
   injection e with e1 e2
   injection e2 with e3 e4
   exact⟨b::a::L,List.Perm.swap a b L,by rw[GY,GY,<-e1,<-e3,<-e4]⟩
 |trans _ _ ZW ZX=>
  intro L e;obtain⟨L2,B,J⟩:=ZX e;obtain⟨L1,h3,h4⟩:=ZW J.symm;exact⟨L1,h3.trans B,h4⟩
def Iu(ks:fE!)(k:dw_):Int:=((ks.filter λx=>Kl x k).length:Nat)
def qN{ks:fE!}{p q:dw_}(hp:p∈ks)(h:Kl p q=true):Iu ks p<Iu ks q:=by
 unfold Iu;have li:∀l:List hI_,(AI!).length<=(AI_).length:=by
  intro l
  induction l with
  |nil=>simp
  |cons x l ih=>
   simp only[QR];by_cases hx:Kl x p=true
   .simp only[hx,jO hx h,IU,HA];omega
   .by_cases hy:Kl x q=true
    .simp only[hx,hy,IU,HA];show"#!";omega
    .simp only[hx,hy];show"#!";exact ih
 have ZY:∀l:List hI_,p∈l->(AI!).length<(AI_).length:=by
  intro l hl
  induction l with
  |nil=>cases hl
  |cons x l ih=>
   obtain e|hl:=GR.mp hl
   .subst e;have:=li l;simp only[QR,b1y,h,IU,HA,HX,IN];omega
   .have:=ih hl;simp only[QR];by_cases hx:Kl x p=true
    .simp only[hx,jO hx h,IU,HA];omega
    .by_cases hy:Kl x q=true
     .simp only[hx,hy,IU,HA];show"#!";omega
     .simp only[hx,hy];show"#!";show"#;"
 have:=ZY ks hp;omega
def b0x{ks:fE!}{p q:dw_}(hp:p∈ks)(hq:q∈ks):decide (Iu ks p<Iu ks q)=Kl p q:=by
 cases h:Kl p q with
 |true=>exact HY (qN hp h)
 |false=>
  refine HF λz=>?_;by_cases e:p=q
  .subst e;omega
  .have:=qN hq (a1x e h);omega
end
section
open Classical
variable{h:Heap}
def Hd.inj{a b c d:Int}(x:Hd h v a b)(y:Hd h v c d):Z_=(c,d):=by
 obtain⟨p,o,n,t,u,rfl,B,_,J⟩:=x;obtain⟨p',o',n',t',u',e,k8,_,ow⟩:=y;cases e;rw[B]at k8;cases k8;rw[J]at ow;injection ow with h3 _
 have:=congrArg Array.toList h3;simp at this;rw[this.1.1,this.2.1]
def Ld(h:Heap)(v:ys!):Int×Int:=if x:∃a b,Hd h v a b then(x.choose,x.choose_spec.choose)else(0,0)
def pN{a b:Int}(x:Hd h v a b):Ld h v=Z_:=by have z:∃a b,Hd h v a b:=⟨a,b,x⟩;unfold Ld;rw[dif_pos z];exact z.choose_spec.choose_spec.inj x
def sA{kf:D->Int×Int}{L:li_}{pb a0:cm_}(ha:hF_=L.map b_)(hk:∀q∈L,Hd h q.1.1 (kf q.2).1 (kf q.2).2)(nd:(qi!).Nodup)(hp:pb.Perm a0)
  (hu:Up AJ_ pb a0.size):∃L':List (Keyed×D),L'.Perm L/\pb.toList=L'.map b_/\L'.map s_=Iq kf qh_:=by
 have b6:pb.toList.Perm hF_:=Array.perm_iff_toList_perm.mp hp;obtain⟨L',B,J⟩:=b7e b6 ha;refine⟨L',B,J.symm,oH ?_ (jG nd) ((B.map _).trans (cG _).symm)⟩;have f7:((L'.map s_).map kf).Nodup:=(((B.map _).map _).nodup_iff).mpr nd;unfold Oi;rw[OG];intro i j hi hj VG;have df:i<fF!:=by simpa using hi
 have z6:j<fF!:=by simpa using hj
 have hsz:pb.size=fF!:=by rw[<-JB,<-J,HG]
 have bu:a0.size=fF!:=by rw[<-JB,ha,HG,B.length_eq]
 have VH:∀k (cx:k<fF!),rk AJ_ pb k=Iu qi! (kf L'[k].2):=λk cx=>by
  unfold rk;have e:pb[k]?=some L'[k].1:=by
   rw[<-LI,<-J,IB,HJ cx];rfl
  rw[e];show Iu _ (Ld h L'[k].1.1)=_;rw[pN (hk L'[k] AK!)]
 have oq:=hu i j (LY VG) a!;rw[VH i df,VH j z6]at oq;simp only[List.getElem_map];have mem:∀k (cx:k<fF!),kf L'[k].2∈(qh_).map kf:=λk cx=>GV (GV AK!);have ne:kf L'[i].2≠kf L'[j].2:=λe=>by
  have q:=(List.getElem_inj (i:=i) (j:=j) (h₀:=by simpa using df) (h₁:=by simpa using z6) f7).mp cP_;omega
 cases ao:Kl (kf L'[i].2) (kf L'[j].2)with
 |true=>rfl
 |false=>
  have:=qN (mem j z6) (a1x ne ao);omega
end
def b0g(a v:ys!):argsOk "list.sort" AK_:=by unfold argsOk;kernel_rfl
def a4c(a v:ys!):argsOk "sorted" AK_:=by unfold argsOk;kernel_rfl
section
variable{X:Cx}{O:List (Addr×Obj)}{Z:St}{G H:Hp}{s:z2!}{A:xX!}{E:Value->Shared->Prop}
def c1x{k:Nat}{sp:Sp}{Q:VK}(F:Fe X.prog X.w X.K X.mg X.base Pf k f fd ps sp)(hr:gl!)(Y:jV_)(e0:Qu X.prog X.w X.K X.mg X.base A X.stack s H)
  (I:c!)(r:ey_)(h:sp vs H Q E0):wpAny e! A (call ah! us) aG! E s:=by
 have hl:(us++[]).length=T!:=by rw[HV,<-r.length];exact F.len _ _ _ _ h
 have b8:=Y s us I.kIn hl;rw[HV]at b8;refine wpAny_call (OQ (F.run A X.stack s H c5! us vs Q E0 hr e0 b8 r h) λr s' hq=>?_);cases r with
 |error e=>exact hq.elim
 |ok fl=>
  cases fl with
  |ret u=>exact I.after hq
  |next=>exact False.elim hq
  |brk=>exact False.elim hq
  |cont=>exact False.elim hq
def Ma:D->Option hI_
 |.tup [.int a,.int b]=>some Z_
 |_=>none
def a5l{a b:Int}(I:c!)(sub:L!)(r:bV_)(e:Ma d=some Z_):Hd s.heap u a b:=by
 unfold Ma at e;show"!7"
 .cases e;obtain⟨v,r,ru⟩:=r;show"!Z";cases ru;show"!5";cases bA r1;cases bA r2;show"#1";obtain⟨x,y,rfl,⟨t,rfl⟩,⟨u,rfl⟩⟩:=yJ rv;exact⟨p,o,n,t,u,rfl,B,J,h3⟩
 .cases e
def Ms(g:ac_):List D->Option (List hI_)
 |[]=>some []
 |d::r=>(g [d]).bind λx=>(Ma x).bind λk=>(Ms g r).map (k::·)
def d0e{oc':Obj}{h':Heap}{t':Nat}(I:Inv X (O++[eo!,(c,oc)]) Z H s)(hc:Ii X O H c)(jd:a≠c)(kp:∀b o,b≠c->s.heap.get? b=some o->h'.get? b=some o)(ho:h'.get? c=some oc')(hd:∀v,oc'.data≠.cell v):
  Inv X (O++[eo!,(c,oc')]) Z H {s with heap:=h',toks:=t'}:=by
 have pa:=I.pin eo! (HD _ c_);have I1:Inv X ql! Z H s:=I.pins_of λp hp=>I.pin p (HD _ (by
  obtain z|z:=GZ.mp hp
  .exact HQ _ z
  .exact HD _ (by simp at z;simp[z])))
 have ll:∀b∈[c],Ii X ql! H b:=λb Y=>by
  have e:b=c:=by simpa using Y
  subst e;obtain⟨f0,f1,f2,f3,f4,f5⟩:=hc;refine⟨f0,f1,f2,f3,f4,cS!⟩;obtain z|z:=GZ.mp hp
  .exact f5 p h7_
  .obtain z|z:=GZ.mp z
   .exact f5 p (HD _ z)
   .have:p=eo!:=by simpa using z
    rw[this];exact jd
 have I2:Inv X ql! Z H {s with heap:=h',toks:=t'}:=jV I1 ll λb o Y e=>kp b o f1! e;refine I2.pins_of λp hp=>?_;obtain z|z:=GZ.mp hp
 .exact I2.pin p (HD _ h7_)
 .obtain z|z:=GR.mp z
  .subst z;exact I2.pin _ fG_
  .have:p=(c,oc'):=by simpa using z
   subst this;exact⟨ho,hc.1,hc.2.1,hc.2.2.1,hd⟩
def zK{k:Nat}{ps:n!}{g:ac_}{body:Value->PUnit->Sem zn_}{Q:zm!}(F:AL!)(hr:ql_)(Y:jV_)(mv:T!=1)(jd:a≠c)
  (ql:∀x (R:ForInStep PUnit->Shared->Prop) s,wpAny e! X.A.in1.in1 (call ah! [x]) (λk s'=>wpAny e! X.A.in1.in1 (Builtin.List.listUpdate cO! (·.push k)) (λ_ s2=>R (.yield ⟨⟩) s2) E s') E s->wpAny e! X.A.in1.in1 (body x ⟨⟩) R E s):
  ∀{ds:a_} {us:g_} {kd:a_} {ku:g_} {n:Nat} {ks:fE!} {s:z2!} {G H:Hp},Inv X (O++[eo!,AL_]) Z H s->Bf G H->Paired cO_ ds us->Paired cO_ kd ku->Ms g ds=some ks->
   (∀H':Hp,H' c=none->Ii X O H' c)->qm!+f_<=1000->
   (∀s' H' G' rm uv n',Inv X (O++[eo!,(c,seqObj "list" (ku++rm).toArray n')]) Z H' s'->Cm G H G' H'->Paired (Cu X.K G') (kd++uv) (ku++rm)->Paired qm_ uv ks->Q ⟨⟩ s')->
   wpAny e! X.A.in1.in1 (forIn us ⟨⟩ body) Q E s
 |_,_,kd,ku,n,ks,s,G,H,I,sub,.nil,pk,e,st,hl,hq=>by
  rw[NQ];cases e;refine GO (hq s H G [] [] n ?_ aC_ ?_ .nil)
  .rw[HV];exact I
  .rw[HV,HV];exact pk
 |d::ds,u::us,kd,ku,n,ks,s,G,H,I,sub,.cons r t,pk,e,st,hl,hq=>by
  show"!p";obtain⟨v,rv,ru⟩:=r;rw[KY];simp only[HA]at hl;refine GM (ql u _ s (dA (c1x (vs:=[v]) (Q:=λv' H'=>∃G',Cm G H G' H'/\Ar X.K G' x v') F hr Y I.env0.in1.in1 I ur! ⟨mv.symm,G,[d],x,sub,Am.cons rv Am.nil,e1,λv' G' H' x' r'=>⟨G',x',r'⟩⟩) λkv s1 ⟨v1,H1,I1,Z0,G1,x1,r1⟩=>?_));have pc:=I1.pin AL_ fG_;refine OB pc.1 rfl ?_ lj_ (by simp only[Array.size_push,GW];rw[JC];omega);have e4:=PP pc.1 (·.push kv);have I2:=d0e (oc':=seqObj "list" (ku++[kv]).toArray (if(ku.toArray.push kv).size==ku.toArray.size then n else n+1)) (t':=s1.toks) I1 (st H1 pc.2.1) jd (λb o Y e=>(IM _ _ eV!).trans e) (by rw[e4,List.push_toArray]) vx!;refine zK F hr Y mv jd ql I2 x1.sub (Paired.mapP t λ_ _ z=>z.mono x1.g) (jC (Paired.mapP pk λ_ _ z=>z.mono x1.g) (.cons ⟨v1,r1,Z0⟩ .nil)) e3 st kY! λs' H' G' rm uv n' I' x' p' k'=>?_;refine hq s' H' G' (kv::rm) (x::uv) n' ?_ (x1.trans x') ?_ (.cons e2 k')
  .rw[IY]at I';exact I'
  .rw[IY,IY]at p';exact p'
end
def Hw(g:ac_)(d:D):Int×Int:=((g [d]).bind Ma).getD (0,0)
def wD{g:ac_}:∀{ds:a_} {ks:fE!},Ms g ds=some ks->ks=ds.map eo_
 |[],_,e=>by cases e;rfl
 |d::r,ks,e=>by
  show"!p";rw[GY,<-wD e3];congr 1;unfold Hw;rw[e1];show q=(Ma x).getD _;rw[e2];rfl
section
variable{X:Cx}{O:List (Addr×Obj)}{Z:St}{G H:Hp}{s:z2!}{A:xX!}{E:Value->Shared->Prop}
def vN{P:Value->D->Prop}{R:D->Value->Prop}:∀{ku us:g_} {ds:a_},Paired P ku ds->Paired R ds us->∀q∈(hJ!).zip ds,P q.1.1 q.2/\R q.2 q.1.2
 |_,_,_,.nil,.nil,q,h=>by simp at h
 |_,_,_,.cons p t,.cons r u,q,h=>by
  rw[OE,OE]at h;obtain rfl|h:=GR.mp h
  .exact⟨p,r⟩
  .exact vN t u q h
def jB{α β γ:Type}{R:cQ_}{f:γ->α}{h:γ->β}:∀{l:List γ},(∀q∈l,R (f q) (h q))->Paired R hJ_ (l.map h)
 |[],_=>.nil
 |q::r,hh=>.cons (hh q (GX ..)) (jB λz hz=>hh z qf_)
def gC{α β:Type}{R:cQ_}:∀{l:H_} {m:dy_},Paired R l m->Y!=m.length
 |_,_,.nil=>rfl
 |_,_,.cons _ t=>by rw[HA,HA,gC t]
def sC{G:Hp}{kf:D->Int×Int}(hp:∀d u a b,Cu X.K G d u->Ma d=some Z_->Hd h u a b):∀{kd:a_} {ku:g_} {ds:a_},Paired cO_ kd ku->Paired qm_ kd (ds.map kf)->Paired (λv d=>Hd h v (kf d).1 (kf d).2) ku ds
 |_,_,[],.nil,_=>.nil
 |_,_,_::_,.nil,h=>by cases h
 |_,_,[],.cons _ _,h=>by cases h
 |_,_,_::_,.cons r t,.cons k u=>.cons (hp _ _ _ _ r k) (sC hp t u)
def c9z{st:SortSt}{us':g_}{ku:g_}{e e1:Nat}{P:ll!}(z7:(D!).map s_=oI!)(hz:us'.length<64)(U':qm!<64)(hf:failedOf st=none)(jd:a≠c)
  (gi:qn_)(ll:AP!)(I:AQ!)
  (hP:∀s' n',Inv X O Z H s'->s'.heap.get? a=some hK!->P hK_ s'):wpAny e! A AQ_ P E s:=by
 have pa:=I.pin ll_ fG_;have pc:=I.pin AP_ fG_;unfold ksk_tail;dsimp only;rw[z7];refine GM (OB pc.1 rfl ?_ lj_ cG!);refine GM (PR ?_);have ea:(s.heap.update c AR_).get? a=some qo_:=(IM _ _ (GT jd)).trans pa.1;refine GM (seqEpoch_at ea rfl ?_);show"#!";refine GM (OB ea rfl ?_ cG! lj_);rw[hf];simp only[QL,HX,IN];have I1:Inv X O Z H s:=I.unpinned;refine GO (hP _ _ (jV (wr:=[a,c]) (t':=s.toks) I1 h4_ λb o Y q=>?_) (PP ea λ_=>oI!))
 .obtain rfl|Y:=GR.mp Y
  .exact gi H pa.2.1
  .rw[lm!];exact ll H pc.2.1
 .have B:b≠a:=λz=>Y (by rw[z];exact GX ..);have J:b≠c:=λz=>Y (by rw[z];exact GP _ (GX ..));exact(IM _ _ (GT B)).trans ((IM _ _ (GT J)).trans q)
def d2p{g:ac_}{ds:a_}{us ku:g_}{e e1:Nat}{P:ll!}(oz:f_<64)(nd:(ds.map eo_).Nodup)(jd:a≠c)
  (gi:qn_)(ll:AP!)(I:AQ!)(sub:L!)
  (pu:qq_)(pk:Paired cO_ kd ku)(kk:Paired qm_ kd (ds.map eo_))
  (hP:∀s' us' n',Inv X O Z H s'->Paired cO_ qr! us'->s'.heap.get? a=some hK!->P hK_ s'):wpAny e! A (ksk_end a false us.toArray e1 cO! ku.toArray) P E s:=by
 have z:=sC (X:=X) (h:=s.heap) (λd u a b r q=>a5l I sub r q) pk kk;have l1:as!=f_:=(gC pu).symm;have l2:qm!=f_:=gC z;have mem:=vN z pu;have jx:(lm_).toList=(hL!).map b_:=by
  rw[ksk_zip,AT_]
 have hd:(hL!).map s_=ds:=List.map_snd_zip qr_;have fin:∀{L':li_} {st:SortSt},L'.Perm hL!->(D!).toList=L'.map b_->L'.map s_=Iq eo_ ds->failedOf st=none->wpAny e! A AQ_ P E s:=λ{L' st} B J h3 h4=>by
  refine c9z (us':=L'.map (·.1.2)) ?_ (by rw[HG,B.length_eq,JP,JP];omega) a! h4 jd gi ll I λs' n' I' e'=>hP s' _ n' I' ?_ e'
  .apply AU!;rw[Array.toList_map,J,JD];rfl
  .rw[<-h3];exact jB λq hq=>(mem q (B.mem_iff.mp hq)).2
 unfold ksk_end;dsimp only;show"#!";by_cases J:kc_<2
 .rw[HB J,HB J];refine GM X!;rw[StateT.run_pure];show"#)";refine fin (L':=(hJ!).zip ds) (NR _) jx ?_ rfl;rw[hd];rw[GW,l1]at J
  match ds,J with
  |[],_=>rfl
  |[x],_=>rfl
  |_::_::r,J=>simp at J;omega
 .rw[GS J,GS J];rw[GW]at J;refine GM (a6k (vs:=ku) AU_ (λz=>by rw[z]at l2;simp at l2;omega) ?_)
  .show"!h"
  .have hsz:(lm_).size=f_:=by rw[<-JB,jx,HG,JP,JP];omega
   have hk:∀q∈(hJ!).zip ds,Hd s.heap q.1.1 (qs!).1 (qs!).2:=λq hq=>(mem q hq).1;have f7:(hL_).Nodup:=by rw[hd];exact nd
   refine GM (JH (b5z (kd:=Xc true) (a0:=ku.toArray.zip cx!) (r:=λp=>Iu hL_ AV_) (Q:=λ_ h1=>(z_).Perm lm_/\failedOf h1=none/\Up (λp=>Iu hL_ AV_) z_ (lm_).size)
    (AW_) AX! AX_ AY! λh1 a1 a2 a3=>AY_) ?_ λ_ _ e=>e)
   .rw[jx]at hx hy;obtain⟨p,hp,rfl⟩:=HK.mp hx;obtain⟨q,bg,rfl⟩:=HK.mp hy;refine wE ln! ln_ ?_;have mm:∀p∈(hJ!).zip ds,Hw g p.2∈((hL!).map s_).map eo_:=λp hp=>GV (GV hp);have hh:decide AZ_=Kl (Hw g p.2) qs!:=by
     show"#>"
    have uw:Q (decide AZ_) s:=hq;rw[hh]at uw;exact uw
   .show"!E";exact fin b1 b2 A0! a2
def c9x{k:Nat}{ps:n!}{g:ac_}(F:AL!)(hr:ql_)(Y:jV_)(mv:T!=1)
  {us:g_}{ds:a_}{n:Nat}{ks:fE!}{P:ll!}(I:c!)(sub:L!)(pu:qq_)(ha:A0_)(f8:hX_)
  (gi:qn_)(ek:Ms g ds=some ks)(nd:hh!)(oz:f_<64)
  (hP:∀s' H' G' us' n',Inv X O Z H' s'->Cm G H G' H'->Paired (Cu X.K G') qr! us'->H' a=none->s'.heap.get? a=some hK!->P hK_ s'):
  wpAny e! X.A.in1.in1 (ksk_tree a ah! false) P E s:=by
 have l1:as!=f_:=(gC pu).symm;have Z1:=wD ek;obtain⟨e1,ux⟩:∃e1,(s.heap.update a (Obj.mapSeq λ_=>(#[]:Array Value))).get? a=some (seqObj "list" #[] e1):=A1!;unfold ksk_tree;refine GM A1_;refine GM A2!;refine GM A2_;refine GM A3!;refine GM (QV ?_ cG!);refine IT ?_;have hsz:(cn_).objs.size=k_+1:=by rw[size_push',Heap.size_update]
 show wpAny _ _ (ksk_rest a ah! false us.toArray e1 (.ref (cn_).objs.size)) P E {s with heap:=(cn_).push co!};have j8:(qt!).get? (cn_).objs.size=some co!:=HN _ rfl;rw[hsz]at j8 ⊢;have jd:a≠k_+1:=II (Nat.lt_succ_of_lt (HR ha));have ll:∀H':Hp,H' ae_=none->Ii X O H' ae_:=λH' q=>I.fpOk (NY _) q;have ng:(qt!).get? a=some qo_:=GQ _ (GQ _ ux);have I1:Inv X O Z H {s with heap:=(cn_).push co!}:=
  jV (wr:=[a]) (t':=s.toks) I (λb Y=>by rw[lm!];exact gi H f8) λb o Y q=>GQ _ A5_
 have fa:=gi H f8;have fc:=ll H td!;have I2:Inv X (O++[ll_,(k_+1,seqObj "list" (vw!).toArray 0)]) Z H {s with heap:=(cn_).push co!}:=I1.pins_of λp hp=>by
  obtain z|z:=GZ.mp hp
  .exact I1.pin p (HD _ z)
  .obtain rfl|z:=GR.mp z
   .exact⟨ng,f8,fa.2.1,fa.2.2.1,jF_⟩
   .rw[bI!];exact⟨j8,fc.1,fc.2.1,fc.2.2.1,jF_⟩
 generalize k_+1=c at *;unfold ksk_rest;refine GM g8!
 first
  |rw[List.forIn_toArray]
  |(rw[<-Array.forIn_toList];simp only[List.toList_toArray])
  |rw[<-Array.forIn_toList]
 refine GM (JH (zK (E:=vz_) (Q:=λ_ s'=>wpAny e! X.A.in1.in1 _ P E s') F hr Y mv jd (λx R s' hx=>?_) I2 sub pu .nil ek ll (by rw[KD];omega) λs' H' G' rm uv n' I' x' p' k'=>?_) AB! λ_ _ z=>z.elim)
 .refine GM (OF (JH hx (λkv s2 hk=>?_) λ_ _ z=>z.elim));dsimp only;exact GM (JH hk (λ_ s3 z=>GO z) λ_ _ z=>z)
 .rw[JO]at I';rw[JO,JO]at p';have pc:=I'.pin (c,seqObj "list" rm.toArray n') fG_;have pa:=I'.pin ll_ fG_;refine GM (QA pc.1 rfl ?_);rw[Z1]at k' nd;exact d2p oz nd jd gi ll I' x'.sub (Paired.mapP pu λ_ _ z=>z.mono x'.g) p' k' λs3 us' n3 I3 p3 e3=>hP s3 H' G' us' n3 I3 x' p3 pa.2.1 e3
def Zb(g:ac_)(ds:a_):Option aL!:=(Ms g ds).bind λks=>if hh!/\f_<64 then some qr! else none
def Ub(g:ac_)(fa:e_):Ad->Option D:=λρ=>(e8!).bind λd=>match d with
 |.lst ds=>(Zb g ds).map D.lst
 |_=>none
def lD{K:z1!}:∀{ds:a_} {vs:k!} {us:g_},Am K G ds vs->Ba vs us->Paired fI! ds us
 |[],vs,us,r,p=>by cases cM r;cases p;exact .nil
 |d::ds,vs,us,r,p=>by
  obtain⟨v,t,rfl,r1,r2⟩:=bJ r;cases p with
  |cons a b=>exact .cons ⟨v,r1,a⟩ (lD r2 b)
def lF{K:z1!}:∀{ds:a_} {us:g_},Paired fI! ds us->∃vs,Am K G ds vs/\Ba vs us
 |_,_,.nil=>⟨[],Am.nil,.nil⟩
 |_,_,.cons ⟨v,r,p⟩ t=>let⟨vs,r2,p2⟩:=lF t;⟨v::vs,Am.cons r r2,.cons p p2⟩
def b0r{us':g_}{n':Nat}{s0:z2!}{H0:Hp}{ds:a_}{Q:VK}(I0:Inv X O Z H0 s0)(I:c!)(sub:L!)(hs:z9!<=a)(pu:Paired cO_ ds us')(hz:f_<=sizeLine)(ho:s.heap.get? a=some hK!)(hn:hX_)
  (hQ:∀v G' H',Cm G H G' H'->Ar X.K G' cy! v->Q v H'):EP X O Z Q S_ s:=by
 obtain⟨vs,r,p⟩:=lF pu;have f:=I0.fpOk hs hn;refine⟨b6_,upd H a dg_,I.track ho p (by rw[<-aJ r];exact hz) hn ?_ f.2.1 f.2.2.2.2.1 f.2.2.2.2.2,rfl,hQ _ _ _ (Cm.laid sub hn) ?_⟩
 .exact IE I0.sz hs
 .exact Ar.lst (Ff.of bR) (r.mono (λb u e=>by rw[aY (λz=>by rw[z]at e;rw[sub _ _ e]at hn;cases hn)];exact e))
def a0a:bootBuiltins "sorted"=some lo!:=by decide+kernel
def a0j{us:g_}{Q:n_}(hl:s.heap.IsList l cx!)(hz:as!<64)
  (h:wpAny e! X.A.in1.in1 (ksk_tree ae_ ah! false) (λfin s'=>∃v,fin=.done (.ret v)/\Q (.ref ae_) s') E {s with heap:=(lo_).push lp!}):
  wpAny e! X.A (call lo! [.ref l] [(Str.ofString "key",.ref f)]) Q E s:=by
 refine call_function_entry_kw kind_sorted plain_sorted entry_sorted (a4c _ _) ?_;unfold Builtin.«sorted»;refine GM (m:=A7!) X!;refine GM (collect_list hl ?_ A7_);refine GM (QV ?_ A7_);have hsz:(lo_).objs.size=k_+1:=by
  rw[Heap.size_update,size_push']
 have mf:((lo_).push lp!).get? ae_=some lp!:=by
  rw[<-hsz];exact HN _ rfl
 show wpAny _ _ _ _ _ {s with heap:=(lo_).push lp!};rw[hsz];refine GM (IT (wpAny_call_entry_kw slot_list_sort A8! entry_list_sort ?body (b0g _ _)))
 case body=>
  rw[ksk_t1];refine JH h (λfin s' hq=>?_) λ_ _ z=>z;obtain⟨v,rfl,hq⟩:=hq;exact⟨v,rfl,GO ⟨_,rfl,hq⟩⟩
variable{own:List Nat}{fa:Ad->Option D}{e:Expr}{pos p p2 kp:Pos}{x:Str}
def c0h{k:Nat}{ps:n!}{g:ac_}(F:w6_)(hr:ql_)(Z2:M_)(z8:Gl X "sorted")(Z3:X.mg "sorted"=none)(ha:DE X own e fa)(mv:T!=1:=by rfl)(av:B_:=by decide)
  (he:j8!:=by rfl):
  DE X own (.Call (.Name "sorted" p) [e] [⟨some "key",cC!,kp⟩] pos) (Ub g fa):=⟨by
 obtain⟨ae,fd,B,J,h3,h4⟩:=F;intro O s Z H Q I ⟨G,ρ,d,er,e1,kq⟩;obtain⟨d0,e2,e1⟩:=GN.mp e1;cases d0 with
 |lst ds=>
  obtain⟨uf,e3,rfl⟩:=GU.mp e1;obtain⟨ks,e4,e5⟩:=GN.mp e3;have q9:hh!/\f_<64:=by
   by_cases z:hh!/\f_<64
   .exact z
   .rw[GS z]at e5;cases e5
  rw[HB q9]at e5;cases e5;have da:=(aC ha aK he).ok;refine LM (kJ I z8 Z3 a0a ?_ d! d!);refine callWith_kw (dA (da pos O s Z H _ I ⟨G,ρ,[.lst ds],er,by unfold Ab Af;rw[e2];rfl,λvs G1 H1 x1 r1=>(⟨G1,x1,r1⟩:∃G1,Cm G H G1 H1/\Am X.K G1 [.lst ds] vs)⟩) λus s1 ⟨vs,H1,I1,r,G1,x1,r1⟩=>?_) A9_ A9_ rfl rfl;refine kws_cons (gZ I1 Z2 h3 (kws_nil ?_) av);obtain⟨v,t,rfl,rv,rr⟩:=bJ r1;cases cM rr;obtain⟨l,xs,rfl,sq,rx⟩:=bQ rv;obtain⟨its,hv,pl,hz⟩:=I1.list (x1.sub.seq sq);cases r with
  |cons ra rb=>
   cases rb;cases ra;show wpAny e! X.A (call lo! [.ref l] [(Str.ofString "key",.ref ae)]) _ _ s1;have lz:dS_=f_:=by rw[<-hv.length,<-aJ rx]
   obtain⟨nn,sl,ho⟩:=nO pl;refine a0j (us:=its) ⟨_,ho,rfl,nn,rfl⟩ (by rw[lz];exact q9.2) ?_;have keep:∀b o,s1.heap.get? b=some o->(Bb!).get? b=some o:=λb o q=>by
    have ao:b<A_:=HR q;exact GQ _ ((Heap.get?_update_ne _ _ _ _ (II ao)).trans ((Heap.get?_push_ne _ _ _ (II ao)).trans q))
   have hsz:(Ba!).objs.size=A_+1:=by
    rw[Heap.size_update,size_push']
   have mf:(Bb!).get? (A_+1)=some Ba_:=by
    rw[<-hsz];exact HN _ rfl
   have I2:=I1.kept (t':=s1.toks) keep;have b9:A_<=A_+1:=NY _;refine c9x B hr J mv I2 x1.sub (lD rx hv) mf (I1.hok.fresh b9) (λH' q=>I1.fpOk b9 q) e4 q9.1 q9.2 λs3 H3 G3 us3 n3 I3 x3 p3 Z4 z9=>oT_;exact b0r I1 I3 x3.sub b9 p3 Bb_ z9 Z4 λv G4 H4 x4 r4=>kq v G4 H4 (x1.trans (x3.trans x4)) r4
 |_=>cases e1⟩
end
def b0q{es:ad!}{ep:Nat}(hd:pZ!):W.KdlSrc P w "dict" d d es.length p1_ (λh=>Oa h d es ep) where
 type:=λ_ hm=>hm.typeIs
 there:=λ_ hm=>let⟨_,ho,_⟩:=hm;⟨HR ho,HR ho⟩
 keep:=λ_ _ hm hk=>hm.at λo e=>hk d aF_ o e
 notList:=by decide
 notTuple:=by decide
 hint:=λ_ _ _ _ hm hq=>W.kdl_hint_dict hm.typeIs hq
 iter:=λ_ _ hh hm=>⟨_,_,(λ_ _ hq=>b9h hd hm hq),b2w hh _ d (let⟨_,ho,_⟩:=hm;II hZ!) es ep,⟨dE_,hm.at λo e=>GQ _ e⟩⟩
section
variable{X:Cx}{O:List (Addr×Obj)}{Z:St}{G H:Hp}{s:z2!}{A:xX!}{E:Value->Shared->Prop}
def c7w{K:z1!}{kvs:g!}{es:ad!}{acc:aa_}(ok:fp!)(hi:Bc_):Paired fI! fo_ lr!:=by
 have ea:lr!=es.map kB_:=by
  apply QM;intro i;rw[IB];by_cases h:i<U_
  .have B:i<acc.size:=by rw[hi.1];exact h
   show"!i"
  .rw[Bd!,JE a!];rfl
 rw[ea];have:∀{kvs:g!} {es:ad!},Paired Bd_ kvs es->Paired fI! fo_ fI_:=λ{kvs es} h=>by
  induction h with
  |nil=>exact .nil
  |cons a _ ih=>exact .cons a ih
 exact this qu_
def Mv(d:D):Int×Int:=(Ma d).getD (0,0)
def Vv(ds:a_):Option aL!:=if lr_=true/\(ls!).Nodup/\f_<64 then some ls_ else none
def c9w{us:g_}{ds:a_}{n:Nat}{P:ll!}(I:c!)(sub:L!)(pu:qq_)(ha:A0_)(f8:hX_)
  (gi:Ii X O H a)(ek:lr_=true)(nd:(ls!).Nodup)(oz:f_<64)
  (hP:∀s' us' n',Inv X O Z H s'->Paired cO_ ls_ us'->s'.heap.get? a=some hK!->P hK_ s'):
  wpAny e! A (Builtin.«list.sort» nD_) P E s:=by
 have l1:as!=f_:=(gC pu).symm;obtain⟨e1,ux⟩:∃e1,(s.heap.update a (Obj.mapSeq λ_=>(#[]:Array Value))).get? a=some (seqObj "list" #[] e1):=A1!;rw[list_sort_plain];refine GM A1_;refine GM A2!;refine GM A2_;refine GM A3!;refine GM (QV ?_ cG!);refine IT ?_;show wpAny _ _ _ P E {s with heap:=(cn_).push co!};have I1:Inv X O Z H {s with heap:=(cn_).push co!}:=
  jV (wr:=[a]) (t':=s.toks) I qv! λb o Y q=>GQ _ A5_
 have ng:(qt!).get? a=some qo_:=GQ _ (GQ _ ux);generalize (cn_).push co!=h3 at I1 ng ⊢;have pk:∀d∈ds,Ma d=some (Mv d):=λd hd=>by
  have:=JR.mp ek d hd;unfold Mv;cases q:Ma d with
  |none=>rw[q]at this;cases this
  |some z=>rfl
 have z:Paired qv_ us ds:=by
  have gen:∀{ds:a_} {us:g_},Paired cO_ ds us->(∀d∈ds,Ma d=some (Mv d))->Paired qv_ us ds:=λ{ds us} h=>by
   induction h with
   |nil=>exact λ_=>.nil
   |cons r _ ih=>exact λhk=>.cons (a5l I1 sub r (hk _ (GX ..))) (ih λd hd=>hk d (GP _ hd))
  exact gen pu pk
 have mem:=vN z pu;have jx:(fJ_).toList=(ep_).map b_:=by
  rw[ksk_zip,AT_]
 have hd:(ep_).map s_=ds:=List.map_snd_zip qr_;have fin:∀{L':li_} {st:SortSt},L'.Perm ep_->(D!).toList=L'.map b_->L'.map s_=Iq Mv ds->failedOf st=none->
   P hK_ {s with heap:=h3.update a (Obj.mapSeq λ_=>(D!).map s_)}:=λ{L' st} b1 b2 b3 b4=>by
  have z7:(D!).map s_=(q0!).toArray:=by
   apply AU!;rw[Array.toList_map,b2,JD];rfl
  rw[z7];refine hP _ _ _ (jV (s:={s with heap:=h3}) (wr:=[a]) (t':=s.toks) I1 qv! λb o Y q=>(A5!).trans q) ?_ (PP ng λ_=>(q0!).toArray);rw[<-b3];exact jB λq hq=>(mem q (b1.mem_iff.mp hq)).2
 have VI:∀{L':li_} {st:SortSt},L'.Perm ep_->(D!).toList=L'.map b_->((D!).map s_).size<=sizeLine+1:=λ{L' st} b1 b2=>by
  rw[Array.size_map,<-JB,b2,HG,b1.length_eq,JP,JP,JC];omega
 by_cases J:kc_<2
 .rw[HB J,HB J];show"#)";rw[StateT.run_pure];show"#)";refine GM qx!;refine GM (OB ng rfl ?_ cG! (VI (L':=(fK!).zip ds) (NR _) jx));simp only[failedOf,QL,HX,IN];refine GO (fin (L':=(fK!).zip ds) (st:=SortSt.mk' general' fJ_ #[] 7 none) (NR _) jx ?_ rfl);rw[hd];rw[GW,l1]at J
  match ds,J with
  |[],_=>rfl
  |[x],_=>rfl
  |_::_::r,J=>simp at J;omega
 .rw[GS J,GS J];rw[GW]at J;refine GM (a6k (vs:=us) AU_ (λz=>by rw[z]at J;simp at J) ?_)
  .show"!h"
  .have hsz:(fJ_).size=f_:=by rw[<-JB,jx,HG,JP,JP];omega
   have hk:∀q∈(fK!).zip ds,Hd h3 q.1.1 (Mv q.2).1 (Mv q.2).2:=λq hq=>(mem q hq).1;have f7:(fL!).Nodup:=by rw[hd];exact nd
   refine GM (JH (b5z (kd:=Xc true) (a0:=us.toArray.zip cx!) (r:=λp=>Iu fL! (Ld h3 p.1)) (Q:=λ_ h1=>(z_).Perm fJ_/\failedOf h1=none/\Up (λp=>Iu fL! (Ld h3 p.1)) z_ (fJ_).size)
    (AW_) AX! AX_ AY! λh1 a1 a2 a3=>AY_) ?_ λ_ _ e=>e)
   .rw[jx]at hx hy;obtain⟨p,hp,rfl⟩:=HK.mp hx;obtain⟨q,bg,rfl⟩:=HK.mp hy;refine wE ln! ln_ ?_;have mm:∀p∈(fK!).zip ds,Mv p.2∈((ep_).map s_).map Mv:=λp hp=>GV (GV hp);have hh:decide qy!=Kl (Mv p.2) (Mv q.2):=by
     show"#>"
    have uw:Q (decide qy!) {s with heap:=h3}:=hq;rw[hh]at uw;exact uw
   .show"!E";refine GM qx!;refine GM (OB ng rfl ?_ cG! (VI b1 b2));rw[a2];simp only[QL,HX,IN];exact GO (fin b1 b2 A0! a2)
def Vz(f:List V->VK->Hp->Prop):List V->Hp->VK->Prop:=λxs H Q=>∃d es ep ys,xs=hP!/\H d=some cM!/\Ba ys fI_/\f ys Q H
def sO{es:ad!}{acc:aa_}(hi:Bc_):lr!=es.map kB_:=by
 apply QM;intro i;rw[IB];by_cases h:i<U_
 .have B:i<acc.size:=by rw[hi.1];exact h
  show"!i"
 .rw[Bd!,JE a!];rfl
def yF(hc:bb_):Ip X bj! qy_:=by
 intro O s Z H xs us Q I r ⟨d,es,ep,ys,e1,e2,hv,k⟩;subst e1;cases r with
 |cons ra rb=>
  cases rb;cases ra;obtain⟨⟨h3,h4,h5⟩,_⟩:=lw!;refine W.kdl_call (b0q h4) bq! h3 fs! λh' tk acc c hk hs hi=>?_;have hn:H k_=none:=I.hok.fresh x_;have f:=I.fpOk (H':=H) x_ hn;refine⟨dR!,upd H s.heap.objs.size aR_,?_,rfl,k _ hn⟩;have ia:=sO hi;refine(I.kept (t':=tk) hk).track (us:=lr!) (n:=c) (by rw[Array.toArray_toList];exact hs) (by rw[ia];exact hv) ?_ hn I.sz f.2.1 f.2.2.2.2.1 f.2.2.2.2.2;rw[hv.length,HG];exact cP h5
def Qm(M:Mh):List D->Option D
 |[d]=>(Dl M d).map λq=>.lst la_
 |_=>none
def zJ{K:z1!}{kvs:g!}{es:ad!}(ok:fp!):∃ys,Am K G fo_ ys/\Ba ys fI_:=by
 have:∀{kvs:g!} {es:ad!},Paired Bd_ kvs es->Paired fI! fo_ fI_:=λ{kvs es} h=>by
  induction h with
  |nil=>exact .nil
  |cons a _ ih=>exact .cons a ih
 exact lF (this qu_)
def c0q{K:z1!}:Qv P w K qy_ Qm:=by
 show"!V";unfold Qm at e;show"!7"
 .obtain⟨q,e1,rfl⟩:=GU.mp e;show"!4";obtain⟨ys,g1,g2⟩:=zJ J;exact⟨q.1,es,q.2.2,ys,rfl,B,g2,λl hl=>k _ _ _ (Cm.laid sub hl) (dX (sub.free hl) g1)⟩
 .cases e
def Vy(K:z1!):List V->Hp->VK->Prop:=λxs H Q=>∃G ds,Bf G H/\(∃d es ep,xs=hP!/\H d=some cM!/\Paired fI! ds fI_)/\lr_=true/\(ls!).Nodup/\f_<64/\∀v G' H',Cm G H G' H'->Ar K G' (.lst ls_) v->Q v H'
def yE(hc:bb_):Ip X lo! (Vy X.K):=by
 intro O s Z H xs us Q I r ⟨G,ds,sub,⟨d,es,ep,e1,e2,hv⟩,q1,q2,q3,k⟩;subst e1;cases r with
 |cons ra rb=>
  cases rb;cases ra;obtain⟨⟨h3,h4,h5⟩,_⟩:=lw!;have lz:U_=f_:=by rw[gC hv,HG]
  refine Calls.call_function_entry kind_sorted plain_sorted entry_sorted (args_sorted1 _) ?_;unfold Builtin.«sorted»;refine GM (m:=A7!) X!;refine GM (W.kdu_collect (b0q h4) bq! h3 fs! λh' tk acc hk hi=>?_);have ia:=sO hi;refine GM (QV ?_ (by rw[ia,HG,JC];omega));rw[ia];have I1:=I.kept (t':=tk) hk;have mf:(h'.push hR!).get? hR_=some hR!:=HN _ rfl;have I2:Inv X O Z H {s with heap:=h'.push hR!,toks:=tk}:=I1.kept (t':=tk) λb u q=>GQ _ q;have hn:H hR_=none:=I1.hok.fresh x_;refine GM (IT (IP slot_list_sort A8! entry_list_sort ?body (args_list_sort _)))
  case body=>
   refine c9w (s:={s with heap:=h'.push hR!,toks:=tk}) I2 sub hv mf hn (I1.fpOk x_ hn) q1 q2 q3 λs3 us3 n3 I3 p3 z9=>⟨_,rfl,GO oT_⟩;exact b0r I1 I3 sub x_ p3 Bb_ z9 hn k
def Qa(M:Mh):List D->Option D
 |[d]=>(Dl M d).bind λq=>(Vv la_).map D.lst
 |_=>none
def c0p{K:z1!}:Qv P w K (Vy K) Qa:=by
 show"!V";unfold Qa at e;show"!7"
 .obtain⟨q,e1,e⟩:=GN.mp e;obtain⟨l,e2,rfl⟩:=GU.mp e;unfold Vv at e2;split at e2
  .rename_i hz;cases e2;show"!4";obtain⟨ys,g1,g2⟩:=zJ J;exact⟨G,_,sub,⟨q.1,es,q.2.2,rfl,B,lD g1 g2⟩,hz.1,hz.2.1,hz.2.2,k⟩
  .cases e2
 .cases e
end
def Vx(M:Mh):D->D
 |.fn a=>match M a with|some (.lst xs)=>.lst xs|_=>.fn a
 |d=>d
def Yn(M:Mh)(x y:D):Option D:=Fb (Vx M x) (Vx M y)
def b0y{P:z3!}{w:yt!}{K:z1!}{M:Mh}{G H:Hp}(sub:L!)(m:ch!)(r:cz!):Ar K H (Vx M d) v:=by
 cases d<;>first|exact r.mono sub|skip
 rename_i a;simp only[Vx];split
 .rename_i xs hM;show"!z";cases fP r;exact Ar.lst (Ff.of B) (J.mono sub)
 .exact r.mono sub
def b7t{P:z3!}{w:yt!}{K:z1!}:Wx P w K (Zd K) Yn:=by
 show"!a";unfold Yn Fb at e;show"!7"
 .show"!s";cases e;exact⟨_,_,b0y sub m rx,b0y sub m ry,h.1.1,h.1.2,h.2,d4_⟩
 .cases e
def Du(K:z1!)(C:xK!)(m qual:Str)(st:Stmt)(ps:n!):Prop:=∃ae fd,Wr K m qual st ae fd/\Eu K fd ps []/\Vl K C m ae
def Tt(K:z1!)(mg:y_)(x:Str)(C:xK!)(qual:Str)(st:Stmt)(ps:n!):Prop:=mg x=some ab_/\∃ae fd,Wr K "__init__" qual st ae fd/\Eu K fd ps []/\Mk K C ae
section
variable{P:z3!}{w:yt!}{K:z1!}{mg:Str->Option Value}{base h:Heap}{x qual:Str}{st:Stmt}{N ps:List Str}{k:Nat}{σ:List Nat}{q:WS}{C:xK!}
def cX(d:o5!)(S:dc_)
  (Y:∀{ae:xK!} {af:ys!} {A:xX!} {outer:V_} {s:z2!} {H:Hp} {E:XK},Ak k kx!->Tp (o5_).nox [] σ bz! q):
  Nt P w K mg base Q_ x ps k9!:=by
 show"#B";exact⟨ae,fd,lA!,hb,m,F.kp⟩
def cU(c:Tu K C)(d:Du K C x qual st ps)(S:dc_)
  (Y:qD!):
  Es P w K mg base Q_ C x ps k9!:=by
 show"#B";exact⟨c,ae,fd,m,lA!,hb⟩
def a1k(d:Tt K mg x C qual st ps)(S:dc_)
  (Y:qD!):
  Vk P w K mg base Q_ x C ps k9!:=by
 obtain⟨m,ae,fd,F,hb,mk⟩:=d;exact⟨m,ae,fd,mk,lA!,hb⟩
def eA{od an:aJ_}{dr:bP!}{kV:ys!}
  (a:W.findIn K ab_ x=some eK!)(i:mS!)(l:u6_)
  (c:i2_)(k:gE!)
  (b:u5_):Du K C x qual st ps:=
 ⟨f,_,kx_,o7!,⟨a,i,k⟩⟩
def b8k{od an:aJ_}{dr:bP!}{kV:ys!}(m:mg x=some ab_)
  (a:sG!)(i:mS!)(l:K.lookup f=some ⟨oc,od,.func qD_,dr⟩)
  (c:i2_)(k:gE!)(mm:sG_)(kc:W.keepIn K ab_=true)
  (b:∀(kV bo pm:ys!) (an:aJ_) (af ct:ys!) (us:g_),as!=T!->bindArgs qD_ c5!=pure c3_):Tt K mg x C qual st ps:=
 ⟨m,f,_,kx_,o7!,⟨mm,a,i,kc⟩⟩
def c3j(hd:Zs K mg x st [y])(S:Aj N [y] bg!)(gi:mg x=some eZ!)
  (Y:∀(base:Heap) (ae:xK!) (af:ys!) (A:xX!) (outer:V_) (s:z2!) (H:Hp) (E:XK),Ak k kx!->Tp (o5_).nox [] σ bz! q):
  ∃fd:FuncData,(∀(s:z2!) (u:ys!),BindsTo s fd jq_ [(y,u)])/\∀base:Heap,K.In base->base.Ns mainGlobals mg->Fe P w K mg base Pf Q_ fa fd [y] (Wv P w K 1 (Cz N 1 q)):=by
 obtain⟨f,fd,F,hb,m⟩:=hd;rw[gi]at m;cases m;exact⟨fd,λs u=>.of_eq (hb [u] rfl),λbase _ _=>tY F S λaf A outer s H E hr=>Y base _ af A outer s H E hr⟩
def nB{α:Type}{p:fN_}(h:∀a,p [a]):∀us:List α,as!=1->p us
 |[a],_=>h a
def qF{α:Type}{p:fN_}(h:∀a b,p al!):∀us:List α,as!=2->p us
 |[a,b],_=>h a b
def us3{α:Type}{p:fN_}(h:∀a b c,p es!):∀us:List α,as!=3->p us
 |[a,b,c],_=>h a b c
def us4{α:Type}{p:fN_}(h:∀a b c d,p [a,b,c,d]):∀us:List α,as!=4->p us
 |[a,b,c,d],_=>h a b c d
def us5{α:Type}{p:fN_}(h:∀a b c d e,p [a,b,c,d,e]):∀us:List α,as!=5->p us
 |[a,b,c,d,e],_=>h a b c d e
def M0:Mh:=λ_=>none
def c3i{g:WF}{H:Hp}{ns:z!}(hS:Ff K H a b9!)(hg:g lD! M0 λd _=>d=.bl true):Wv P w K 1 g bd_ H jr! λ_ _ _=>False:=
 ⟨rfl,H,lD!,M0,_,Bf.refl H,⟨λa c e=>by cases e⟩,Am.cons (Ar.lst hS (zO ns)) Am.nil,hg,λd M' v G' H' r _ _ q=>by subst r;exact cV q⟩
end
end DL
namespace L2
open PySem PySem.Spec PyProof.Rows
def c2c{X:Cx}{i:Nat}{tg:Expr}{scope:Scope}{pos:Pos}{NL:n!}{ix:i_}{wi:TI}{g:TG}{tt:TT}{te:TE}
  (hN:aW_)(df:ad_)(hx:bb!)
  (cj:dd_)(ce:de!)(kj:∀y∈ca!,y.2=.local->scope.names.lookup y.1=some .local)
  (il:gJ_)(cap:dd!)(calm:bb_)(a9:mt!)
  (hg:gK!)(hi:vE!)(he:vE_)
  (hs:cX_:=by intro _;rfl)
  (fq:swapsWith hX! (some im!) pos.line X.env=pure true:=by rfl)
  (hf:X.fn x=true\/X.env.scope.names.lookup x=some .local:=by first|exact .inl rfl|exact .inr rfl|assumption):
  PS X (.Assign rN_ hX! pos) (Za vF! eD!):=by
 intro O s Z H D I h;show"!T"
 rw[exec_Assign_Name_used x pos' _ pos fq];refine GM (PQ gg_);unfold evalThenUse;refine GM (wpAny_comprehension_free (use:=some _) rfl hs bz.eq cj kj vF_);obtain⟨it,fp,tn,ac,H2,e,I2,T,bi,f2,hw⟩:=J;subst e;refine zX (RR:=λacc C=>compPost e! X.A X.xe (some _) _ acc C) cj ce bz cap calm (hg cl) (hi cl) (he cl) I2 T bi f2 hw λD' C us n ys H' s' I' eD rv ar nD hD hC jn nC ⟨m,hn⟩ fin=>?_;have fh:∀b,b<O!->b≠C/\b≠D':=λb Y=>vG!;have qq:∀x c,X.env.cells.lookup x=some c->c<O!:=λx c h=>let⟨_,_,ho,_⟩:=I2.cell x c h;HR ho;have ua:∀p∈X.pn++O,p.1<O!:=λp hp=>HR (I2.pin p hp).1;have ID:=I'.track (D:=D') (us:=us) (n:=n) eD rv ar nD (IE I2.sz hD) (GT (gK_).2) vI_ λp hp=>(jG!).2;show wpAny e! X.A (assign im! X.env (.ref D')) _ _ s';refine GM (m:=standAt pos') (PQ ?_);refine wpAny_bindName (yN ID hN df hx (v:=.ref D') rfl (λs3 I3 ⟨a,sb,ha⟩=>?_) hf);have Z5:a≠C:=by
  obtain rfl|ha:=ha
  .exact(gK_).1
  .exact(fh _ (qq _ _ ha)).1
 refine⟨m,hn.sameBut sb (GT Z5),λh' cn=>?_⟩;have Z6:upd H' D' aR_ C=none:=by rw[aY (GT jn)];exact nC
 have IC:Inv X O (Z.set i (some (.ref D'))) (upd H' D' aR_) {s3 with heap:=h',toks:=s3.toks}:=I3.turned (it:=C) vG_ Z6 (GT (gK_).1) vH! vI! λp hp=>(jG!).1;exact GO (GO ⟨_,_,IC,fin D' nD⟩)
end L2
namespace DL
open PySem PySem.Spec PyProof.Rows L2
section
variable{X:Cx}{own:List Nat}{tg:Expr}{fi:WI}{ft:WT}
def oX{i:Nat}{scope:Scope}{pos p2:Pos}{NL:n!}{ix:i_}{g:TG}{bnd:ag!}{fe:WE}
  (hN:aW_)(df:ad_)(hx:bb!)
  (cj:dd_)(ce:de!)(kj:∀y∈ca!,y.2=.local->scope.names.lookup y.1=some .local)
  (il:gJ_)(cap:dd!)(hix:jN!)(calm:bb_)(a9:pT_)
  (hg:gK!)(oj:op_)(hi:zQ!)(he:zP_)
  (bq:aT!:=by decide)(hs:cX_:=by intro _;rfl)
  (fq:swapsWith hX! (some dl!) pos.line X.env=pure true:=by rfl)
  (hf:X.fn x=true\/X.env.scope.names.lookup x=some .local:=by first|exact .inl rfl|exact .inr rfl|assumption):
  MS X own own (.Assign [cC!] hX! pos) (An i zR_):=
 oY (c2c hN df hx cj ce kj il cap calm a9.ok hg hi wA_ hs fq hf) λM0 G0 F0 E Z G H ρ M R sr e k1 k2=>⟨G,ρ,M,_,sr.st,e,λds ck M1 ac G1 H1 r1 x1 m1 fm=>by
  obtain⟨Y,r1⟩:=r1;have kh:=sr.st.grow x1 m1;refine b2o Y fm oj zQ_ r1 λjo ys M' G' H' r x m q _ p hp=>?_;exact k1 _ M' _ _ _ r ((((zD!).grow x m).grow (.ext gY!) (m.ext gY!)).set bq (dX oq! q))⟩
end
end DL
namespace DL
open PySem PySem.Spec PyProof.Rows L2
section
variable{X:Cx}{own:List Nat}{e a b o tg:Expr}{pos p2 p aj ag:Pos}{f fa fb fo:WE}
def Sm(fo:WE):WE:=λρ M R=>fo ρ M λd M1=>El pC_ λq=>El (q.2[kV_ - 1]?) λy=>R y (Az M1 q.1 (.lst q.2.dropLast))
def xG{K:z1!}{G:Hp}{ds:a_}{vs:k!}(r:g0_):Am K G ds.dropLast vs.dropLast:=by rw[List.dropLast_eq_take,List.dropLast_eq_take,aJ r];exact mK _ r
def c3d(ho:cj_)(ez:attributeBase o "pop" X.env cW!=eval o X.env:=by rfl)(fg:c9!:=by rfl):ME X own (.Call ze! [] [] ag) (Sm fo):=
 eS (c6t LQ PySem.F.slot_list_pop PySem.F.type_list_pop c7m ho.ok ez fg) λZ G H Q ρ M R st e k=>
  ⟨G,ρ,M,_,st,e,λd M1 v G1 H1 r1 x1 m1 q1=>by
   obtain⟨⟨p,xs⟩,e1,r2⟩:=cS r1;obtain⟨y,e2,r3⟩:=cS r2;obtain⟨rfl,rfl,hM,vs,hH,hr⟩:=pZ m1 q1 e1;obtain⟨u,hu,ru⟩:=fQ hr e2;refine⟨.inl ⟨rfl,vs,Ff.of hH⟩,p,vs,u,rfl,rfl,hH,by rw[<-aJ hr];exact hu,?_⟩;exact k _ _ _ _ _ r3 (x1.trans (.write m1 x1.sub hM) m1) (m1.write hM ⟨_,bR,xG hr⟩) ru⟩
def GL(fa:WE)(ol oh:of!):WE:=λρ M R=>fa ρ M λx M1=>El (ol ρ) λl=>El (oh ρ) λh=>match x with|.lst xs=>R (.lst (Db xs l h)) M1|_=>False
end
def ER(K:z1!)(l:xK!)(n:Nat):It:=
 ⟨λi H=>i<n/\∃xs,Ff K H l xs/\i!=n,λi H x H'=>H'=H/\∀xs,Ff K H l xs->xs[n - 1 - i]?=some x,λi _=>i=n⟩
def b5o{K:z1!}{tg:Expr}(l it:xK!)(n:Nat):Qy P w K tg (ER K l n) [it] it (λi h=>h.IsRevIter it l ((n:Int) - 1 - (i:Int))) where
 mem:=by simp
 obj:=λi h st b Y=>by
  have e:b=it:=by simpa using Y
  subst e;show"!S"
 keep:=λi h h' st k=>st.at λo e=>k it c_ o e
 item:=by
  intro X hP hw hK hc i O s Z H E I hf st hg;subst hP hw hK;obtain⟨hi,xs,hq,hn⟩:=hg;obtain⟨its,rv,p,hz⟩:=I.list hq;have hx:xs[n - 1 - i]?=some (xs[n - 1 - i]' a!):=HJ a!;obtain⟨u,hu,ru⟩:=rv.get hx;obtain⟨f0,f1,f2,f3,f4,f5⟩:=hf it c_;have e1:(n:Int) - 1 - (i:Int)=qL!:=by omega
  have kh:=st;rw[e1]at kh;refine wpAny_pyNext_rev_item kh p.isList (x:=u) mm_ λh' h1 sb=>?_;have e2:qL! - 1=(n:Int) - 1 - ((i+1:Nat):Int):=by omega
  rw[e2]at h1;show"!A";exact⟨u,rfl,b2g (s:=ir_) e c d d! ⟨_,H,I1,ru,rU_,h1,is!⟩⟩
 done:=by
  intro X hP hw hK hc i O s Z H E I hf st hg;subst hP hw hK;obtain⟨f0,f1,f2,f3,f4,f5⟩:=hf it c_;have hg:i=n:=hg;have e1:(n:Int) - 1 - (i:Int)=-1:=by omega
  rw[e1]at st;exact wpAny_pyNext_rev_end bq! st λh' eb=>is_
 self:=λ_ _ _ _ _ st h=>wpAny_pyIter_revIter st h
section
variable{X:Cx}{own:List Nat}{e a b o tg:Expr}{jb:List Expr}{n1:Nat}{pos p2 p tp aj ag:Pos}{f fa fb fo:WE}
def Ui(f:WE):WI:=λρ M T=>f ρ M λd M1=>match d with
 |.lst xs=>T xs.reverse Q! M1
 |_=>False
def c7r(hg:Gl X "reversed")(hm:X.mg "reversed"=none)(h:ay!)(hs:Ad_:=by rfl)(ax:Ae!:=by rfl):
  MI X own tg (.Call (.Name "reversed" p) [a] [] pos) (Ui fa):=⟨by
 intro O s Z H R I ⟨G,ρ,M,T,st,e,k⟩;refine Call_ (kJ I hg hm boot_reversed (JV (dA (dD h.ok fR hs pos O s Z H (λvs H1=>∃v xs M1 G1,vs=[v]/\T xs.reverse Q! M1/\XM M G H M1 G1 H1/\MR X.prog X.w X.K M1 G1 H1/\Ar X.K G1 N! v) I ⟨G,ρ,M,_,st,e,zV!⟩) λus s1 ⟨vs,H1,I1,r1,v,xs,M1,G1,q1,t1,x1,m1,rr⟩=>?_) hs ax))
 .cases d<;>first|exact r1.elim|skip
  exact⟨v,_,M1,G1,rfl,r1,x1,m1,q1⟩
 subst q1;obtain⟨l,ys,rfl,q,rl⟩:=bQ rr;obtain⟨u,rfl,ru⟩:=rY r1;cases ru;have hq:Ff X.K H1 l ys:=x1.sub.seq q;obtain⟨its,rv,pl,hz⟩:=I1.list hq;refine call_reversed_list pl.isList ?_;have e1:((a3!:Nat):Int) - 1=((X_:Nat):Int) - 1 - cW_:=by
  have:=eF!;rw[GW];omega
 rw[e1];have a9:(s1.heap.push qO_).IsRevIter s1.heap.objs.size l qN_:=dE_;refine wpAny_pyIter_revIter (s:={s1 with heap:=s1.heap.push qO_}) a9 ?_;refine⟨A_,[A_],_,_,H1,rfl,it!,b5o l _ X_,a9,bq_,k _ _ M1 _ G1 H1 t1 x1 m1 ?_⟩
 .have e:b=A_:=by simpa using Y
  show"!P"
 .intro i M' G' H' g1 g2 m' _;have hl:=aJ rl;have q':Ff X.K H' l ys:=g2.seq (g1.seq q);refine⟨dm!,λhi=>by rw[NZ]at hi;show i=X_;omega⟩;have hi:i<i!:=by have:=(HC.mp hd).1;rwa[NZ]at this
  rw[List.getElem?_reverse hi]at hd;obtain⟨v,gv,Z7⟩:=fQ rl hd;refine⟨⟨u!,ys,q',rfl⟩,fd!⟩;obtain⟨rfl,hy⟩:=hy;have:=hy ys q';rw[<-hl]at this;rw[gv]at this;cases this;exact⟨G',Cm.refl g2,Z7.mono g1⟩⟩
end
section
variable{X:Cx}{own:List Nat}{a b:Expr}{pos q1 q2 q3 q4 q5:Pos}{s1 s2 s3:Str}{j1 j2 j3:Nat}{fa fb:Ad->Option D}
def b4i{a8:i_}{rest:bp!}:Tp X own a8 rest gC_:=zB_
end
end DL
namespace XS
open PySem
abbrev frA(l:V_):List Addr:=l.filterMap (·.frame)
structure Kp(ai fr:J!)(h h':Heap):Prop where
 old:∀b o,b∉ai->b∉fr->h.get? b=some o->h'.get? b=some o
 frm:∀b o,b∈fr->h.get? b=some o->∃sl,h'.get? b=some {o with slots:=sl}
 thr:∀b o,h.get? b=some o->∃o',h'.get? b=some o'
 sz:b0_<=hR_
def Kp.refl(ai fr:J!)(h:Heap):Kp ai fr h h:=⟨λ_ _ _ _ e=>e,λ_ o _ e=>nM!,λ_ o e=>nM_,HL _⟩
def Kp.trans{ai fr:J!}(a:Kp ai fr B J)(b:Kp ai fr J h3):Kp ai fr B h3:=
 ⟨λx o l m e=>b.old x o l m qP_,λx o m e=>by
  obtain⟨sl,e1⟩:=a.frm x o m e;obtain⟨gc,e2⟩:=b.frm x _ m e1;exact⟨gc,e2⟩,λx o e=>let⟨o1,e1⟩:=a.thr x o e;b.thr x o1 e1,IE a.sz b.sz⟩
def Kp.weak{ai uy fr:J!}(a:Kp ai fr h h')(Y:∀b∈ai,b∈uy):Kp uy fr h h':=⟨λx o l m e=>a.old x o (λz=>l (Y x z)) m e,a.frm,a.thr,a.sz⟩
def Kp.skip{ai uy fr:J!}{B:Heap}(a:Kp ai fr B J)(b:Kp uy fr J h3)(Y:∀x∈uy,x∈ai\/B.get? x=none):Kp ai fr B h3:=
 ⟨λx o l m e=>b.old x o (λz=>(Y x z).elim l λq=>by rw[q]at e;cases e) m qP_,λx o m e=>by
  obtain⟨sl,e1⟩:=a.frm x o m e;obtain⟨gc,e2⟩:=b.frm x _ m e1;exact⟨gc,e2⟩,λx o e=>let⟨o1,e1⟩:=a.thr x o e;b.thr x o1 e1,IE a.sz b.sz⟩
structure XN(n:Heap)(h:Heap)(e:xK!)(cls:ys!):Prop where
 new:n.get? e=none
 ex:∃oe vs,h.get? e=some oe/\oe.cls=cls/\oe.data=.fields vs/\vs[1]?=some .none
structure XF(n:Heap)(h:Heap)(e T:xK!)(cls fl:ys!):Prop where
 new:n.get? e=none
 ex:∃oe vs oT ts,h.get? e=some oe/\oe.cls=cls/\oe.data=.fields vs/\vs[1]?=some (.ref T)/\n.get? T=none/\T≠e/\h.get? T=some oT/\oT.data=.fields ts/\ts[3]?=some fl
section
variable{M:Model}{A:xX!}{E:Value->Shared->Prop}{s:z2!}{base:Heap}{env:Env}{outer:List Env}{L e:xK!}{n:Heap}{cls fl:ys!}{Q:Unit->Shared->Prop}
def c5o(hl:ew!)(hn:ew_)(he:n.get? e=none):e∉frA bo!:=λhm=>by obtain⟨o,q⟩:=hn e hm;rw[he]at q;cases q
def c5q{oe:Obj}{vs:aa_}{Z8:Bool}(g8:fQ!)(hl:ew!)(hf:fQ_)(hn:ew_)(cf:fR!)
  (hne:n.get? e=none)(he:s.heap.get? e=some oe)(hc:oe.cls=cls)(hd:oe.data=.fields vs)(hsz:1<vs.size)
  (k:qS_):
  wpAny M A (do setField cE_ 1 (<-EntryCells.newEntry VJ (<-frameOf env) .none lJ! .none (<-entryPlaceOf L Z8))) Q E s:=by
 have VL:=c5o (s:=s) hl hn hne;refine GM (wpAny_frameOf_fun g8 hl hf λB so=>?_);refine GM (wpAny_entryPlaceOf λpl ax=>?_);unfold EntryCells.newEntry newFields;refine GM (JN ?_ (ax.sizeOk5 _ _ _ _ _));have e1:B.get? e=some oe:=(so.2.1 e VL).trans he;have eT:e<h0_:=HR e1;generalize hob:({cls:=.type "traceback",dict:=none,data:=.fields (qU!).toArray}:Obj)=ob;have VM:ob.data=.fields (qU!).toArray:=by rw[<-hob]
 have Z9:ob.isFreed=false:=LO VM;have e2:(B.push ob).get? e=some oe:=GQ _ e1;refine NE e2 hd hsz ?_;have d3:=KO hd qU_;have e3:=JX qV_ e2 (LO d3);have oth:∀b o,b≠e->B.get? b=some o->(qV!).get? b=some o:=λb o Y eb=>by
  rw[IM _ _ eV!];exact GQ _ eb
 have tT:(qV!).get? h0_=some ob:=by
  rw[IM _ _ (II eT)];exact HN _ Z9
 have s1:k_=h0_:=so.1.symm;refine k _ B.objs.size (by rw[s1];exact HL _) ⟨hne,_,_,ob,_,e3,(Obj.cls_mapFields _ _).trans hc,d3,by simp[hsz],cf _ a!,NB eT,tT,VM,?_⟩ ⟨λb o Y pe eb=>?_,λb o Y eb=>?_,λb o eb=>?_,by rw[MN,MF,s1];exact NY _⟩ (hl.of_keeps λb o eb uz=>?_)
 .obtain rfl|⟨_,_,_,_,_,_,_,rfl⟩:=ax<;>simp
 .refine oth b o lN! ?_;rw[so.2.1 b pe];exact eb
 .show"##";exact⟨sl,oth b _ (λz=>VL (z▸Y)) lm⟩
 .show"##";by_cases ji:b=e
  .subst ji;exact⟨_,e3⟩
  .exact⟨_,oth b _ ji lm⟩
 .show"##";exact⟨_,oth b _ (λz=>by subst z;rw[he]at eb;cases eb;exact uz _ hd) lm,rfl⟩
def a5q(g8:fQ!)(hl:ew!)(hf:fQ_)(hn:ew_)(cf:fR!)(x:XN n s.heap e cls)
  (k:qS_):wpAny M A lO! Q E s:=by
 obtain⟨hne,oe,vs,he,hc,hd,B⟩:=x;unfold noteFrame;simp only[hf];refine GM lO_;rw[GS (show¬((Value.none != Value.none)=true)by decide)];exact c5q g8 hl hf hn cf hne he hc hd (JL.mp B).1 k
variable{T:xK!}
def zB(g8:fQ!)(hl:ew!)(hf:fQ_)(hn:ew_)(cf:fR!)(x:qW_)(Z':fl≠rawInt L)
  (k:∀h' T',k_<=T'->XF n h' e T' cls lJ!->Kp [e,T] fR_ s.heap h'->h'.FunFrames base bo!->Q () {s with heap:=h'}):wpAny M A lO! Q E s:=by
 obtain⟨hne,oe,vs,oT,ts,he,hc,hd,B,hT,xb,ht,lp,h3⟩:=x;unfold noteFrame;simp only[hf];refine GM lO_;rw[qX!];refine GM (JK ht lp h3 ?_);rw[GS (show¬((fl==rawInt L)=true)by simpa using Z')];refine GM (NE ht lp (JL.mp h3).1 ?_);have oth:∀b,b≠T->(h3_).get? b=s.heap.get? b:=λb Y=>IM _ _ eV!;have F':T∉frA bo!:=c5o (s:=s) hl hn hT;have kp:Kp [e,T] fR_ s.heap h3_:=
  ⟨λb o Y _ eb=>by rw[oth b lN!];exact eb,λb o Y eb=>q1!,λb o eb=>by
   by_cases Y:b=T
   .subst Y;exact⟨_,JX _ ht q2!⟩
   .exact⟨o,by rw[oth b Y];exact eb⟩,NC (MN ..).symm⟩
 have jq:(h3_).FunFrames base bo!:=hl.of_keeps λb o eb uz=>⟨o,by
  rw[q2_];exact eb,rfl⟩
 have hz:(h3_).objs.size=k_:=MN ..;refine c5q (s:={s with heap:=s.heap.update T qZ_}) g8 jq hf hn (by rw[hz];exact cf) hne ((q3!).trans he) hc hd (JL.mp B).1 λh' T' a0 a1 a2 a3=>k h' T' (by rw[<-hz];exact a0) a1 (kp.trans (a2.weak c_)) a3
def a3m{fo:aJ_}{l:V_}(hl:s.heap.FunFrames base l)(hn:∀b∈frA l,∃o,n.get? b=some o)(x:qW_)
  (k:∀h',XF n h' e T cls q3_->Kp [T] (frA l) s.heap h'->h'.FunFrames base l->hR_=k_->Q () {s with heap:=h'}):wpAny M A (setFlight cE_ fo) Q E s:=by
 obtain⟨hne,oe,vs,oT,ts,he,hc,hd,B,hT,xb,ht,lp,h3⟩:=x;have hsz:=(JL.mp h3).1;unfold setFlight;refine GM lO_;rw[qX!];have oth:∀b,b≠T->(s.heap.update T q5!).get? b=s.heap.get? b:=λb Y=>IM _ _ eV!;have F':T∉frA l:=λhm=>by obtain⟨o,q⟩:=hn T hm;rw[hT]at q;cases q
 have self:=JX q5! ht q2!;refine NE ht lp hsz (k _ ⟨hne,oe,vs,_,_,(q3!).trans he,hc,hd,B,hT,xb,self,KO lp _,by simp[hsz]⟩
  ⟨λb o Y _ eb=>by rw[oth b lN!];exact eb,λb o Y eb=>q1!,λb o eb=>by
   by_cases Y:b=T
   .subst Y;exact⟨_,self⟩
   .exact⟨o,by rw[oth b Y,eb]⟩,NC (MN ..).symm⟩
  (hl.of_keeps λb o eb uz=>⟨o,by rw[q2_];exact eb,rfl⟩) (MN ..))
inductive Xq(n:Heap)(h:Heap)(e:xK!)(cls:ys!)(L:xK!):List Addr->Prop
 |new:XN n h e cls->Xq n h e cls L [e]
 |on {T:xK!}:XF n h e T cls .none->Xq n h e cls L [e,T]
def d0z{ai:J!}(g8:fQ!)(hl:ew!)(hf:fQ_)(hn:ew_)(cf:fR!)(x:Xq n s.heap e cls L ai)
  (k:∀h' T,q6_->XF n h' e T cls .none->Kp ai fR_ s.heap h'->h'.FunFrames base bo!->Q () {s with heap:=h'}):wpAny M A (leaving env cE_) Q E s:=by
 have VN:∀{T:xK!},k_<=T->s.heap.get? T=none:=λ{T} hT=>by
  cases q:s.heap.get? T with
  |none=>rfl
  |some o=>exact absurd (HR q) (Nat.not_lt.mpr hT)
 unfold leaving;cases x with
 |new x=>
  refine GM (a5q g8 hl hf hn cf x λB T a0 a1 a2 a3=>?_);show"!]"
 |on x=>
  refine GM (zB g8 hl hf hn cf x fT_ λB T a0 a1 a2 a3=>?_);show"!]"
end
end XS
namespace XS
open PySem PySem.Spec PyProof.Rows L2
def Yp(base:Heap)(P:z3!)(w:yt!):Va:=λouter H s E e s'=>∃(a T:xK!) (cls:ys!) (H':Hp),e=.ref a/\s'.os=s.os/\AllBare s'.gens/\Un (frs outer) [] H H' s.heap s'.heap/\Lm P w H' s'.heap/\
 XF s.heap s'.heap a T cls .none/\H' a=none/\H' T=none/\s'.heap.FunFrames base outer/\E cls none H'
def Lo(m n:Heap):Prop:=∀b,n.get? b=none->m.get? b=none
def In(n h:Heap):Prop:=∀b,b0_<=b->n.get? b=none
def Lo.in{n:Heap}(l:Lo n h):In n h:=λb z=>l b (Heap.get?_none_of_le z)
def Lo.of{h h':Heap}(k:∀b o,h.get? b=some o->∃o',h'.get? b=some o'):Lo h h':=λb z=>by
 cases y:h.get? b with
 |none=>rfl
 |some o=>obtain⟨o',e⟩:=k b o y;rw[z]at e;cases e
def XF.low{n:Heap}(x:XF n h e T cls fl)(l:Lo m n):XF m h e T cls fl:=by obtain⟨hne,oe,vs,oT,ts,he,hc,hd,B,hT,r⟩:=x;exact⟨l _ hne,oe,vs,oT,ts,he,hc,hd,B,l _ hT,r⟩
def Xq.ge{n:Heap}{ai:J!}(x:lQ_):∀b∈ai,n.get? b=none:=by
 intro b Y;cases x with
 |new x=>simp at Y;subst Y;exact x.new
 |on x=>
  obtain⟨hne,oe,vs,oT,ts,he,hc,hd,B,hT,r⟩:=x;simp at Y;obtain rfl|rfl:=Y
  .exact hne
  .exact hT
structure Nw(X:Cx)(O:j!)(n:Heap):Prop where
 s0:∀b o,b∉X.ex->X.s₀.heap.get? b=some o->∃o',n.get? b=some o'
 loc:∃o,n.get? X.env.locals=some o
 cel:∀x c,X.env.cells.lookup x=some c->∃o,n.get? c=some o
 pin:∀p∈X.pn++O,∃o,n.get? p.1=some o
 frm:∀b∈frA X.stack,∃o,n.get? b=some o
def Er.there{H:Hp}{h:Heap}{o:HO}(x:lz!):∃u,h.get? a=some u:=by
 cases o with
 |lst xs=>obtain⟨_,_,_,_,e⟩:=x;exact bx_
 |tup xs=>obtain⟨_,_,_,_,e,_⟩:=x;exact bx_
 |dK kvs=>obtain⟨_,_,_,_,o,_,_,e,_⟩:=x;exact bx_
 |dT kvs=>obtain⟨_,_,_,_,o,_,_,e,_⟩:=x;exact bx_
 |set S n=>obtain⟨o,_,_,_,e,_⟩:=x;exact bx_
 |ins C dx fs=>obtain⟨_,_,_,e,_⟩:=x;exact bx_
 |own y=>obtain⟨_,e⟩:=x;exact bx_
 |xd fs=>obtain⟨_,⟨_,_,_,e,_⟩,_⟩:=x;exact bx_
 |rng lo hi=>obtain⟨_,_,_,e⟩:=x;exact bx_
 |frz ob u=>obtain⟨e,_⟩:=x;exact bx_
 |tbl ps=>exact⟨_,hS!⟩
 |met f y=>exact⟨_,hS!⟩
 |ext φ=>obtain⟨_,⟨_,e⟩,_⟩:=x;exact bx_
def Lm.none{H:Hp}{h:Heap}(x:ba!)(e:h.get? a=none):H a=none:=by
 cases q:H a with
 |none=>rfl
 |some u=>
  obtain⟨o,ho⟩:=Er.there (x a u q);rw[e]at ho;cases ho
section
variable{X:Cx}{O:List (Addr×Obj)}{Z:L2.St}{H H':Hp}{s:z2!}{h':Heap}{ai:List Addr}{n:Heap}
def Nw.here(I:c!):Nw X O s.heap where
 s0:=λb o hx e=>I.base.there b o e hx
 loc:=by obtain⟨m,⟨o,_,_,ho,_⟩,_⟩:=I.loc;exact lR_
 cel:=λx c h=>by
  obtain⟨v,o,ho,_⟩:=I.cell x c h;exact lR_
 pin:=λp hp=>⟨_,(mk!).1⟩
 frm:=λb Y=>by
  obtain⟨_,o,ho,_⟩:=I.stack.mem Y;exact lR_
def c4a(I:c!):∀b∈frA X.stack,H b=none:=I.stkFree
def c0u{g':lJ_}{t':Nat}{d':Drawn}(I:c!)(N:Nw X O n)(u:Un h4! ai H H' s.heap h')(hok:h1!)(hg:lK!)(Y:∀b∈ai,n.get? b=none):
  Inv X O Z H' {s with heap:=h',gens:=g',drawn:=d',toks:=t'}:=by
 have nb:∀b∈ai,∀o,n.get? b≠some o:=λb h o z=>by rw[Y b h]at z;cases z
 have n0:∀b∈ai,b∈X.ex\/X.s₀.heap.get? b=nL_:=λb h=>by
  by_cases hx:b∈X.ex
  .exact .inl hx
  .refine .inr ?_;cases q:X.s₀.heap.get? b with
   |none=>rfl
   |some o=>obtain⟨o',e⟩:=N.s0 b o hx q;exact absurd e (nb b h o')
 have nl:∀b∈ai,b≠X.env.locals:=λb h z=>by subst z;obtain⟨o,e⟩:=N.loc;exact nb _ h o e
 have nc:∀b∈ai,∀x c,X.env.cells.lookup x=some c->c≠b:=λb h x c hc z=>by subst z;obtain⟨o,e⟩:=N.cel x c hc;exact nb _ h o e
 have np:∀b∈ai,∀p∈X.pn++O,p.1≠b:=λb h p hp z=>by subst z;obtain⟨o,e⟩:=N.pin p hp;exact nb _ h o e
 have nf:∀b∈ai,b∉frs X.stack:=λb h z=>by obtain⟨o,e⟩:=N.frm b z;exact nb _ h o e
 have nfs:∀b∈ai,b∉X.fs:=λb h z=>by
  refine nf b h ?_;obtain e|⟨e,ef⟩:=I.ok.stk
  .rw[e];exact z
  .rw[e];simp only[frs,MZ,ef];exact GP _ z
 have ok:=I.ok
 let X':Cx:={X with ex:=X.ex++ai}
 have k1:∀b∈X.ex++ai,b≠X.env.locals/\∀x c,X.env.cells.lookup x=some c->c≠b:=λb b8=>by
  obtain q|q:=GZ.mp b8
  .exact ok.exf b q
  .exact⟨nl b q,nc b q⟩
 have k2:∀b o,X.base.get? b=some o->b∉X.ex++ai:=λb o e z=>by
  obtain q|q:=GZ.mp z
  .exact ok.noex b o e q
  .obtain r|r:=n0 b q
   .exact ok.noex b o e r
   .rw[(ok.bs b o e).1]at r;cases r
 have k3:∀b∈X.ex++ai,b∉X.fs:=λb b8=>by
  obtain q|q:=GZ.mp b8
  .exact ok.exfs b q
  .exact nfs b q
 have ok':X'.Ok:=⟨ok.mod,ok.kind,ok.glob,ok.blt,ih!,ok.inj,ok.has,ok.cab,ok.hd,ii!,ok.stk,k1,ok.bs,ok.bsz,k2,k3,ok.funs,ok.frf⟩;have I':Inv X' O Z H s:=⟨ok',I.os,I.bare,I.base.mono (λ_ z=>z) (λ_ z=>HQ _ z),I.loc,I.cell,I.free,I.freeC,I.pin,I.hok,I.len⟩;have J':=I'.call (g':=g') (t':=t') (d':=d') (ch:=ai) u hok hg λb h=>⟨.inl (HD _ h),nl b h,nc b h,np b h⟩;have out:∀b o,X.s₀.heap.get? b=some o->b∉X.ex->b∉X.ex++ai:=λb o e hx z=>by
  obtain q|q:=GZ.mp z
  .exact hx q
  .obtain r|r:=n0 b q
   .exact hx r
   .rw[e]at r;cases r
 have hb:=J'.base;exact⟨ok,J'.os,J'.bare,⟨λb o e m hf hx=>hb.keep b o e m hf h9!,λb o e m hf hx=>hb.slot b o e m hf h9!,λb o e m hx=>hb.free b o e m h9!,λb o e hx=>hb.there b o e h9!,hb.tups,hb.frzs,hb.tbls⟩,
  J'.loc,J'.cell,J'.free,J'.freeC,J'.pin,J'.hok,J'.len⟩
def c9v(kp:lT_):Un h4! ai H H s.heap h' where
 keep:=λb o e _ hf Y=>kp.old b o Y hf e
 slot:=λb o e _ hf _=>kp.frm b o hf e
 free:=λ_ _ _ n _=>n
 there:=λb o e _=>kp.thr b o e
 tups:=λ_ _ e=>e
 frzs:=λ_ _ _ e=>e
 tbls:=λb ps e=>lP_
def c8g(I:c!)(kp:lT_)(Y:∀b∈ai,H b=none):Lm X.prog X.w H h':=λb u e=>
 (lQ!).stay (λd o hd eo=>by
  have tj:∃u,H d=some u:=by
   obtain rfl|hd:=hd
   .exact⟨u,e⟩
   .exact⟨_,hd⟩
  obtain⟨v,hv⟩:=tj;exact kp.old d o (λz=>by rw[Y d z]at hv;cases hv) (λz=>by rw[c4a I d z]at hv;cases hv) eo) fO! λ_ _ q=>q
def a3g(I:c!)(N:Nw X O n)(kp:lT_)(Y:∀b∈ai,H b=none/\n.get? b=none):Inv X O Z H {s with heap:=h'}:=
 c0u (g':=s.gens) (t':=s.toks) (d':=s.drawn) I N (c9v kp) (c8g I kp λb h=>(Y b h).1) I.bare λb h=>(Y b h).2
end
def c4c{h base:Heap}{outer:V_}(x:h.FunFrames base bo!):h.FunFrames base outer:=x.2.2
section
variable{P:z3!}{w:yt!}{K:z1!}{mg:Str->Option Value}{base:Heap}{N:List Str}{qual:Str}{scope:Scope}{f:xK!}{cd:ys!}{A:xX!}{outer:List Env}{s s1:z2!}{H H1:Hp}{E E':XK}{O:List (Addr×Obj)}{Z:L2.St}{n:Heap}{e:xK!}{cls:ys!}{ai:List Addr}
def b8v(I:Inv ia! O Z H1 s1)(Nn:Nw ia! O n)(cf:In n s1.heap)
  (x:Xq n s1.heap e cls s.heap.objs.size ai)(Y:∀b∈ai,H1 b=none)(q:E cls none H1):
  (ia!).xe cE_ s1:=by
 refine d0z (base:=base) (n:=n) I.ok.frames I.stack rfl Nn.frm cf x λh' T hT xf kp ff=>?_;have ac:=a3g I Nn kp λb h=>rd_;refine⟨e,T,cls,H1,rfl,ac.os,ac.bare,ac.base,ac.hok,xf.low (λb z=>?_),?_,?_,c4c ff,q⟩
 .cases y:s.heap.get? b with
  |none=>rfl
  |some o=>
   obtain⟨o',e'⟩:=Nn.s0 b o fT_ y;rw[z]at e';cases e'
 .cases x with
  |new _=>exact Y e c_
  |on _=>exact Y e c_
 .obtain h|h:=hT
  .exact Y T h
  .exact I.hok.fresh h
end
def FL:List Value:=[re!,rf!,re_,rf_]
structure CU(K:z1!)(N:xK!):Prop where
 mk::
 at_:∃c d es ep sl,K.lookup N=some ⟨c,d,.dict es ep,sl⟩/\(es.all λe=>match e.key with|.str _ _=>true|_=>false)=true
 no:W.nsIn K N "__init__"=some none
def AC(K:z1!)(C:xK!):Prop:=∃hb N nm q bs hdct sn sub ab col dd k0 k1 k2 k3 k5 c0 d1 cd sl,K.lookup C=some (excClassObj nm q C N bs (.ref hb::FL) hdct sn sub ab col dd k0 k1 k2 k3 k5 "ValueError.__new__")/\K.lookup hb=some ⟨c0,d1,.cls cd,sl⟩/\CU K N/\CU K cd.ns
def c8j{K:z1!}{C N:xK!}{nm q nm1 q1:Str}{hdct hdct1 del1:Bool}{sub:g_}{ab ab1:Bool}{col col1:Option Bool}{dd d1 d2 d3:aJ_}{k0 k1 k2 k3 k5:iN!}{sl s2 s3:bP!}{es VO:by_}{ep u6:Nat}
  (la:K.lookup C=some (excClassObj nm q C N bs [.ref hb,re!,rf!,re_,rf_] hdct sn sub ab col dd k0 k1 k2 k3 k5 "ValueError.__new__"))(lb:K.lookup hb=some ⟨c0,d1,.cls {name:=nm1,bases:=bs1,mro:=mro1,ns:=N1,qualname:=q1,hasDict:=hdct1,slotNames:=sn1,subclasses:=sub1,abstract:=ab1,collection:=col1,hasDel:=del1},sl⟩)
  (lc:K.lookup N=some ⟨c2,d2,.dict es ep,s2⟩)(ld:(es.toList.all λe=>match e.key with|.str _ _=>true|_=>false)=true)(le:W.nsIn K N "__init__"=some none)(lf:K.lookup N1=some ⟨c3,d3,.dict VO u6,s3⟩)(lg:(VO.toList.all λe=>match e.key with|.str _ _=>true|_=>false)=true)(lh:W.nsIn K N1 "__init__"=some none):AC K C:=
 ⟨hb,N,nm,q,bs,hdct,sn,sub,ab,col,dd,k0,k1,k2,k3,k5,c0,d1,_,sl,la,lb,⟨⟨_,_,_,_,_,lc,by rw[<-Array.all_toList];exact ld⟩,le⟩,⟨⟨_,_,_,_,_,lf,by rw[<-Array.all_toList];exact lg⟩,lh⟩⟩
def CU.ok{K:z1!}{N:xK!}(n:CU K N):W.nsOkIn K N=true:=by obtain⟨⟨c,d,es,ep,sl,e1,e2⟩,_⟩:=n;unfold W.nsOkIn;rw[e1];exact e2
def c8i{K:z1!}{C:xK!}{h:Heap}(X:ec!)(q:AC K C):∃bm N nm q bs hdct sn sub ab col dd k0 k1 k2 k3 k5 mN,h.get? C=some (excClassObj nm q C N bs bm hdct sn sub ab col dd k0 k1 k2 k3 k5 "ValueError.__new__")/\h.Ns N mN/\mN "__init__"=none/\OwnTail h FL bm:=by obtain⟨hb,N,nm,q,bs,hdct,sn,sub,ab,col,dd,k0,k1,k2,k3,k5,c0,d1,cd,sl,l1,l2,n1,n2⟩:=q;exact⟨_,N,nm,q,bs,hdct,sn,sub,ab,col,dd,k0,k1,k2,k3,k5,_,X _ _ l1,.of_isNs (W.isNs_of_in X n1.ok),W.nsMap_none_of_in X n1.ok n1.no,.own (X _ _ l2) (.of_isNs (W.isNs_of_in X n2.ok)) (W.nsMap_none_of_in X n2.ok n2.no) .base⟩
section
variable{X:Cx}{O:List (Addr×Obj)}{Z:L2.St}{H:Hp}{s:z2!}{h':Heap}{e C:xK!}{cls:ys!}{args:List Value}
def made(I:c!)(m:Heap.MadeExcOf s.heap h' e cls args):Inv X O Z H {s with heap:=h'}/\XN s.heap h' e cls/\H e=none:=by refine⟨I.un (t':=s.toks) (Un.kept m.keeps) (I.hok.kept m.keeps),⟨m.new,?_⟩,Lm.none I.hok m.new⟩;obtain⟨t,ht,_⟩:=m.there;exact⟨_,_,ht,rfl,rfl,rfl⟩
def b6u{x:Str}{te:TE}{R:ic!}(hC:AC X.K C)(hh:ev!=none)(hg:M_)(hm:gr!)(he:PE X ex te)
  (hR:∀(O:j!) (Z:L2.St) (H:Hp) (s:z2!) (h':Heap) (e:xK!) (n:Heap),Inv X O Z H {s with heap:=h'}->Nw X O n->In n h'->XN n h' e ab_->H e=none->R ab_ H->X.xe cE_ {s with heap:=h'})
  (av:B_:=by decide)(hst:rm!:=by rfl):
  PS X rn! rn_:=by
 intro O s Z H D I h;obtain⟨bm,N,nm,q,bs,hdct,sn,sub,ab,col,dd,k0,k1,k2,k3,k5,mN,c1,c2,hni,c3⟩:=c8i I.ok.mod.kin hC;refine wpAny_Raise_call_subU (C:=C) (mN:=mN) (nm:=nm) (q:=q) (N:=N) (bs:=bs) (bm:=bm) (hdct:=hdct) (sn:=sn) (sub:=sub) (ab:=ab) (col:=col) (dd:=dd) (k0:=k0) (k1:=k1) (k2:=k2) (k3:=k3) (k5:=k5) PySem.F.excBase_ValueError d! PySem.F.excBase_ValueError (c3.hasType d!) hh (by rw[hst];rfl) hni (gZ I hg hm o_ av);rw[hst];show wpAny _ _ (evalArgs ab_ true rl_ []) _ _ _;refine LU (KP (dA cr_ λu s1 ⟨v,H1,I1,r1,q1⟩=>?_));refine NA ?_;refine⟨rfl,by simp[sizeLine],I1.bk _ _ c1,c2.keeps I1.bk,c3.keeps I1.bk,λh' e m=>?_⟩;obtain⟨ac,xn,hn⟩:=made I1 m;exact hR O Z H1 s1 h' e s1.heap ac (Nw.here I1) (Lo.of λb o y=>⟨o,m.keeps b o y⟩).in xn hn q1
end
def Xq.at{n:Heap}{e L:xK!}{cls:ys!}{ai:J!}(x:lQ_):Xq n h e cls L' ai:=by
 cases x with
 |new x=>exact .new x
 |on x=>exact .on x
def Xq.mem{n:Heap}{e L:xK!}{cls:ys!}{ai:J!}(x:lQ_):e∈ai:=by cases x<;>simp
section
variable{M:Model}{A:xX!}{E:Value->Shared->Prop}{s:z2!}{base:Heap}{env:Env}{outer:List Env}{L e:xK!}{n:Heap}{cls fl:ys!}{Q:Unit->Shared->Prop}{ai:List Addr}
def d2h(g8:fQ!)(hl:ew!)(hf:fQ_)(hn:ew_)(cf:fR!)(x:Xq n s.heap e cls L0 ai)
  (k:∀h' T fl,q6_->XF n h' e T cls fl->Kp ai fR_ s.heap h'->h'.FunFrames base bo!->Q () {s with heap:=h'}):wpAny M A lO! Q E s:=by
 cases x with
 |new x=>exact a5q g8 hl hf hn cf x λB T a0 a1 a2 a3=>k B T _ h7! a1 a2 a3
 |on x=>exact zB g8 hl hf hn cf x fT_ λB T a0 a1 a2 a3=>k B T _ h7! a1 a2 a3
end
def Lv(X:Cx)(R:ic!):Prop:=∀(O:j!) (Z:L2.St) (H:Hp) (s:z2!) (n:Heap) (a:xK!) (cls:ys!) (ai:J!),Inv X O Z H s->Nw X O n->In n s.heap->Xq n s.heap a cls 0 ai->(∀b∈ai,H b=none)->R cls H->X.xe S_ s
def d0y{K:z1!}{mg:y_}{base:Heap}{A:xX!}{outer:V_}{s:z2!}{H:Hp}{E:XK}:
  Lv ia! λcls H'=>E cls none H':=λO Z H1 s1 n a cls ai I Nn i x Y q=>b8v I Nn i x.at Y q
def c2n{X:Cx}{R:ic!}{E':XK}(hX:Lv X R)(hE:∀cls H',E' cls none H'->R cls H'):Ju (Yp X.base X.prog X.w) X E':=by
 intro O Z H s e s' I h;obtain⟨a,T,cls,H',rfl,os,bare,un,hok,xf,ha,hT,ff,q⟩:=h;obtain⟨hh,g,d,t,io⟩:=s';obtain rfl:io=s.os:=os;have ac:=I.call (h':=hh) (g':=g) (d':=d) (t':=t) (ch:=[]) un hok bare s4_;refine hX O Z H' _ s.heap a cls _ ac (Nw.here I) (Lo.of λb o y=>un.there b o y c_).in (.on xf) h4_ (hE _ _ q);simp at Y;obtain rfl|rfl:=Y
 .exact ha
 .exact hT
def b3n{X:Cx}{x:Str}{te:TE}{R:ic!}(hX:Lv X R)(hC:AC X.K C)(hh:ev!=none)(hg:M_)(hm:gr!)(he:PE X ex te)
  (av:B_:=by decide)(hst:rm!:=by rfl):
  PS X rn! rn_:=
 b6u hC hh hg hm he (λO Z H s h' e n I N i x hn q=>hX O Z H _ n e _ _ I N i (.new x) (λb Y=>by simp at Y;subst Y;exact hn) q) av hst
end XS
namespace XS
open PySem PySem.Spec PyProof.Rows PySem.W L2
abbrev Yq(X:Cx)(pn:j!)(f:n_):Cx:={X with pn:=pn,xe:=f}
abbrev Ud(X:Cx)(e:xK!)(pn:j!):Cx:={X with A:=X.A.mark (some cE_),calm:=false,pn:=pn,xe:=λ_ _=>False}
section
variable{X:Cx}{O qj pn:List (Addr×Obj)}{Z h2:L2.St}{H:Hp}{s:z2!}{f:Value->Shared->Prop}{e a:xK!}{oe:Obj}
def wH{gw:Cx}(I:c!)(ok:gw.Ok)(hY:gw={X with A:=gw.A,calm:=gw.calm,pn:=gw.pn,xe:=gw.xe})(hp:∀p∈gw.pn++qj,s.heap.get? p.1=some p.2/\H p.1=none/\p.1≠X.env.locals/\p.1∉X.fs/\∀v,p.2.data≠.cell v)
  (hl:h2.length=ev_)(hs:∀(i:Nat) (v:V),h2[i]?=some ba_->Z[i]?=some ba_):Inv gw qj h2 H s:=by
 obtain⟨m,hn,h⟩:=I.loc;have:=I.len;rw[hY];exact⟨hY▸ok,I.os,I.bare,I.base,⟨m,hn,λi x v e1 e2 e3=>h i x v e1 (hs i v e2) e3⟩,I.cell,I.free,I.freeC,hp,I.hok,hl.trans I.len⟩
def d2e(ok:X.Ok):(ez_).Ok:=ih_
def c7d(ok:(ez_).Ok):X.Ok:=ih_
def d0r(ok:X.Ok):(Ud X e pn).Ok:=⟨ok.mod,ok.kind,ok.glob,ok.blt,ih!,ok.inj,ok.has,ok.cab,λz=>Bool.noConfusion z,ii!,ok.stk,ok.exf,ok.bs,ok.bsz,ok.noex,ok.exfs,ok.funs,ok.frf⟩
def d2f(ok:(Ud X e pn).Ok)(hd:X.calm=true->ev!=none):X.Ok:=⟨ok.mod,ok.kind,ok.glob,ok.blt,ih!,ok.inj,ok.has,ok.cab,hd,ii!,ok.stk,ok.exf,ok.bs,ok.bsz,ok.noex,ok.exfs,ok.funs,ok.frf⟩
def b4r{h':Heap}{t:Nat}{m':y_}(I:c!)(qk:h'.Ns X.env.locals m')(hs:Heap.SameBut X.env.locals s.heap h')
  (hl:∀(j:Nat) (y:Str) (v:V),X.N[j]?=some y->h2[j]?=some ba_->Vi X.env.scope y->∃u,Bp v u/\BU X.env h' m' y u)(len:h2.length=lH_):Inv X O h2 H {s with heap:=h',toks:=t}:=by
 have ne:∀b o,X.s₀.heap.get? b=some o->b≠X.env.locals:=λb o e=>II lK_;refine⟨I.ok,I.os,I.bare,⟨λb o e n Y hx=>(l1!).trans h2_,fS!,I.base.free,lL_,I.base.tups,I.base.frzs,I.base.tbls⟩,⟨_,qk,hl⟩,λy c e=>?_,I.free,I.freeC,cS!,λb ob e=>?_,len⟩
 .show"!=";exact⟨sl,(l1!).trans e1⟩
 .show"!8";exact⟨o',(l1!).trans e1⟩
 .obtain⟨w',z⟩:=I.cell y c e;exact⟨w',z.sameBut hs (I.cne y c e)⟩
 .show"!O";exact rd!
 .refine(q9!).stay q9_ fO! λ_ _ q=>q;rintro rfl;obtain rfl|hc:=hc
  .rw[I.free]at e;cases e
  .rw[I.free]at hc;cases hc
end
structure Xy(K:z1!)(C0:xK!):Prop where
 tup:W.instIn K aY! a6!=some false
 cls:∃cd,W.clsIn K C0=some cd
 exc:W.subIn K aY! rt_=some true
def c9f{K:z1!}{cd:ClassData}(ta:W.instIn K aY! a6!=some false)(tb:W.clsIn K C0=some cd)(tc:W.subIn K aY! rt_=some true):Xy K C0:=⟨ta,⟨_,tb⟩,tc⟩
def a9h{M:Model}{E:n_}{K:z1!}{a:xK!}{oe:Obj}{s:z2!}{Q:dq!}(X:gf_)(C:Xy K C0)(he:s.heap.get? a=some oe)(hc:oe.cls=.ref c)(hs:W.subIn K cO! aY!=some true)
  (h:Q true s):wpAny M A (excMatches S_ aY!) Q E s:=by
 obtain⟨hh,g,d,tk,os⟩:=s;obtain⟨B,J,h3⟩:=C;have L1:=W.looks_instIn (M:=M) X B;have L2:=W.looks_subIn (M:=M) X h3;have L3:=W.looks_subIn (M:=M) X hs;have Lt:Looks M hh (isType aY!) true:=by
  obtain⟨cd,J⟩:=J;unfold W.clsIn at J;split at J
  .rename_i ho;intro A' Q' E' s' k q;unfold isType loadHead;exact GM (QN (k _ _ (X _ _ ho)) (GO q))
  .cases J
 have Le:Looks M hh (isExcClass aY!) true:=Lt.andThen L2;have Ly:Looks M hh (typeOf S_) cO!:=λA' Q' E' s' k q=>GM rv!;unfold excMatches;refine GM (L1.at ?_);rw[GS d!];show"#)";rw[KY];refine GM (GM (GM (Le.at ?_)));simp only[KC,HX,IN];refine GO ?_;dsimp only;rw[NQ];refine GO (GM (Ly.at ?_));rw[KY];refine GM (GM (GM (L3.at ?_)));simp only[IU];exact GO kB!
structure Zo(X:Cx)(xC en xn:Str)(C0 L:xK!)(ie ix:Nat):Prop where
 hst:X.stack=X.env::X.outer
 hf:X.env.frame=some L
 hcalm:X.calm=true->ev!=none
 hN:aW_
 hie:X.N[ie]?=some en
 hix:X.N[ix]?=some xn
 hne:en≠xn
 hke:X.env.scope.names.lookup en=some .local
 hkx:X.env.scope.names.lookup xn=some .local
 hg:Gl X xC
 hm:X.mg xC=some aY!
 C:Xy X.K C0
def Qj(n ix:Nat)(v:V):L2.St:=(rx!).set ix ba_
section
variable{X:Cx}{O:List (Addr×Obj)}{D:Sj}{xC en xn:Str}{cp xp ap hp:Pos}{he:Expr}{C0 L:xK!}{ie ix:Nat}{hv:Addr->Option V}
nonrec def xT(X:Cx)(O:j!)(D:Sj)(h0:ExceptHandler):Value->Shared->Prop:=λe ak=>wpAny e! X.A (noteFrame e X.env) (λ_ am=>wpAny e! X.A (setFlight e none) (λ_ c9=>wpAny e! X.A (handleBy e X.env [h0]) lX_ X.xe c9) X.xe am) X.xe ak
def c7u(tc:l5_)
  (u7:rx_)
  (fq:l7_)(av:ie_):
  Lv rA! λcls H'=>∃c v,cls=.ref c/\subIn X.K cO! aY!=some true/\hv c=some v/\D.nx l9_ H':=by
 obtain⟨hst,hf,hcalm,hN,hie,hix,hne,hke,hkx,hg,hm,C⟩:=tc;intro qj h2 H' s' n a cls ai I Nn i x Y q;obtain⟨c,v,rfl,UX,hvc,hD⟩:=q;have g8:X.A.frames=some if!:=by rw[<-hst];exact I.ok.frames
 have cf:∀b∈frA if!,∃o,n.get? b=some o:=by rw[<-hst];exact Nn.frm
 have hl:s'.heap.FunFrames X.base if!:=by rw[<-hst];exact I.stack
 refine d2h g8 hl hf cf i x λB T fl a0 a1 a2 a3=>?_;have hTn:H' T=none:=by
  obtain z|z:=a0
  .exact Y T z
  .exact I.hok.fresh z
 have hTg:n.get? T=none:=let⟨_,_,_,_,_,_,_,_,_,z,_⟩:=a1;z;rw[<-hst]at a2;have J1:=a3g I Nn a2 λb h=>rd_;have tk:∀b∈[T],H' b=none/\n.get? b=none:=λb h=>by simp at h;subst h;exact⟨hTn,hTg⟩
 refine a3m (s:={s' with heap:=B}) (fo:=none) a3 cf a1 λJ b1 b2 b3 b4=>?_;rw[<-hst]at b2;have J2:=a3g J1 Nn b2 tk;refine wpAny_handleBy_cons (codeAny_handlers_test ?_) (by intro q;cases q);have I2:Inv (Ud X a bQ_) [] h2 H' {s' with heap:=J}:=wH (ok:=d0r (c7d J2.ok)) J2 rfl (λp hp=>J2.pin p (HQ _ ig!)) rfl λ_ _ z=>z;refine gZ (X:=Ud X a bQ_) I2 hg hm ?_ av;obtain⟨f8,oe2,UK,oT2,ts2,e2,c2,d2,r2⟩:=id b1;refine a9h I2.kIn C e2 c2 UX ?_;dsimp only;refine codeAny_handlers_suite_as ?_;refine a3m (s:={s' with heap:=J}) (fo:=none) b3 cf b1 λh3 c1' VP c3 c4=>?_;rw[<-hst]at VP;have J3:=a3g J2 Nn VP tk;obtain⟨_,oe,vs3,oT3,ts3,e3,cc3,d3,r3⟩:=c1';have zy:H' a=none:=Y _ x.mem;have pf:a≠X.env.locals:=λz=>by subst z;obtain⟨o,w⟩:=Nn.loc;rw[show n.get? X.env.locals=some o from w]at f8;cases f8
 have haf:a∉X.fs:=λz=>by
  obtain⟨o,w⟩:=cf a (by
   show a∈List.filterMap _ if!;rw[MZ,hf];exact GP _ z)
  rw[f8]at w;cases w
 have I3:Inv (Ud X a fX!) [] h2 H' {s' with heap:=h3}:=wH (ok:=d0r (c7d J3.ok)) J3 rfl (λp hp=>by
  rw[HV]at hp;obtain hp|hp:=GZ.mp hp
  .exact J3.pin p iw!
  .simp at hp;subst hp;exact⟨e3,zy,pf,haf,λv z=>by rw[d3]at z;cases z⟩) rfl λ_ _ z=>z
 refine oG (X:=Ud X a fX!) (v:=b6_) I3 hN hie (.inl hke) rfl (λs4 I4=>?_) (.inr hke);have he4:ma_[ie]?=some j7!:=IL (by rw[I3.len];exact(HC.mp hie).1);have P:=oN (uY (X:=Ud X a fX!) (pos:=ap) (pos':=xp) hN hix (.inl hkx) (u7 a fX! oe c c_ cc3) fq (.inr hkx));refine JH (P [] s4 _ H' {nx:=λσ5 H5=>σ5=(ma_).set ix ba_/\H5=H',rt:=λ_ _=>False} I4 ⟨he4,v,hvc,rfl,rfl⟩) (λf s5 z=>?_) λ_ _ z=>z.elim;cases f<;>first|(obtain⟨_,_,_,z⟩:=z;exact z.elim)|(obtain⟨_,_,_,_,_,z⟩:=z;exact z.elim)|skip
 obtain⟨_,_,I5,rfl,rfl⟩:=z;dsimp only;obtain⟨m,hn,hlk⟩:=id I5.loc;have hix5:ix<((ma_).set ix ba_).length:=by rw[I5.len];exact(HC.mp hix).1
 refine wpAny_nameGoes_keeps hke hn (by rw[show X.env.scope.kind=.function from I5.ok.kind];rfl) λh6 w hn6 VQ=>?_;have I6:Inv (Ud X a fX!) [] l9_ _ {s5 with heap:=h6,toks:=s5.toks+1}:=b4r I5 hn6 VQ (λj y u e1 e2 e3=>by
  have hj:j=ix:=by
   by_cases z:j=ix
   .exact z
   .unfold Qj at e2;rw[IA (GT z),KM]at e2;split at e2<;>cases e2
  subst hj;rw[show X.N[j]?=some xn from hix]at e1;cases e1;unfold Qj at e2;rw[IL (by rw[LF];exact(HC.mp hix).1)]at e2;cases e2;obtain⟨u',r',lk⟩:=hlk j _ _ hix (IL (by simpa using hix5)) e3;refine lU!;obtain⟨k,e⟩|⟨k,c,e,z⟩:=lk
  .exact .inl ⟨k,by simp[GT hne,e]⟩
  .exact .inr ⟨k,c,e,z.sameBut VQ (I5.cne _ c e)⟩) (by unfold Qj;simp)
 exact⟨_,_,wH (ok:=d2f I6.ok hcalm) I6 rfl (λp hp=>I6.pin p (by simp only[HV];exact HQ _ hp)) rfl λ_ _ z=>z,hD⟩
def c6j{body:bp!}{t:(Value->Hp->Prop)->TS}(tc:l5_)
  (u7:rx_)
  (Y:∀pn f R,Lv ez_ R->Ov ez_ body (t R))
  (fq:l7_:=by rfl)(av:ie_:=by decide):
  PS X rE_ λD Z H=>t (λcls H'=>∃c v,cls=.ref c/\subIn X.K cO! aY!=some true/\hv c=some v/\D.nx l9_ H') D Z H:=by
 intro O s Z H D I h;have lv:=c7u (cp:=cp) (hp:=hp) (O:=O) (D:=D) tc u7 fq av;refine wpAny_Try_except (JH (Y _ _ _ lv [] s Z H D (wH (ok:=d2e I.ok) I rfl (λp hp=>I.pin p ig!) rfl λ_ _ z=>z) h) (λf s1 z=>?_) λe s1 z=>z);have xc:∀{bx H1},Inv rA! [] bx H1 s1->Inv X O bx H1 s1:=λac=>wH (ok:=c7d ac.ok) ac rfl (λp hp=>ac.pin p ig!) rfl λ_ _ z=>z;cases f with
 |next=>obtain⟨bx,H1,ac,q⟩:=z;exact OJ me_
 |brk=>obtain⟨bx,H1,ac,q⟩:=z;exact me_
 |cont=>obtain⟨bx,H1,ac,q⟩:=z;exact me_
 |ret u=>obtain⟨v,bx,H1,ac,r,q⟩:=z;exact⟨v,bx,H1,xc ac,r,q⟩
end
end XS
namespace DL
open PySem PySem.Spec PyProof.Rows L2 XS
abbrev EK:=Addr->Mh->Prop
abbrev Yr:=List D->Mh->pn!->EK->Prop
def XR(P:z3!)(w:yt!)(K:z1!)(M0:Mh)(G0 F0:Hp)(E:EK):Value->Hp->Prop:=λcls H'=>∃c M' G',cls=.ref c/\E c M'/\XM M0 G0 F0 M' G' H'/\MR P w K M' G' H'
def FC(P:z3!)(w:yt!)(K:z1!)(n:Nat)(g:Yr):Sp:=λvs H Q E=>bd!=n/\∃G ds M R EM,Bf G H/\MR P w K M G H/\Am K G ds vs/\g ds M R EM/\(∀d M' v G' H',R d M'->XM M G H M' G' H'->MR P w K M' G' H'->Ar K G' d v->Q v H')/\∀cls H',XR P w K M G H EM cls H'->E cls none H'
def AB(P:z3!)(w:yt!)(K:z1!)(mg:y_)(base:Heap)(k:Nat)(x:Str)(ps:n!)(g:Yr):Prop:=
 ∃ae fd,Fe P w K mg base lU_ k ae fd ps (FC P w K ps.length g)/\Eu K fd ps []/\mg x=some bi_/\W.keepIn K bi_=true
section
variable{P:z3!}{w:yt!}{K:z1!}{mg:Str->Option Value}{base:Heap}{k:Nat}{x:Str}{N ps:List Str}{st:Stmt}
def AB.m{g:Yr}(h:AB P w K mg base k x ps g):Nt P w K mg base k x ps λds M R=>g ds M R λ_ _=>False:=by
 obtain⟨ae,fd,F,J,h3,h4⟩:=h;refine⟨ae,fd,⟨λvs H Q E z=>z.1,λA outer s H args us vs Q E hr e0 Y hv ⟨hl,G,ds,M,R,sub,m,r,e,kk⟩=>?_⟩,J,h3,h4⟩;refine OQ (F.run A outer s H args us vs Q gC_ hr e0 Y hv ⟨hl,G,ds,M,R,_,sub,m,r,e,kk,λcls H' ⟨_,_,_,_,z,_⟩=>z⟩) λr s' z=>?_;cases r with
 |ok f=>cases f<;>exact z
 |error e=>obtain⟨_,_,_,_,_,_,_,_,_,_,_,_,_,z⟩:=z;exact z
def b8a{σ:i_}{q:EK->WS}(d:o5!)(S:dc_)
  (Y:∀{ae:xK!} {af:ys!} {A:xX!} {outer:V_} {s:z2!} {H:Hp} {E:XK} {M0:Mh} {G0 F0:Hp} {EM:EK},Ak k kx!->Lv rI! (XR P w K M0 G0 F0 EM)->
   Ov rI! bz! (Zx P w K M0 G0 F0 [] σ (q EM))):
  AB P w K mg base Q_ x ps λds M R E=>Cz N ps.length (q E) ds M R:=by
 show"#B";refine⟨ae,fd,?_,hb,m,F.kp⟩;show"!B";refine c5p lk bv S wT! λA outer s H vs Q E hr h=>?_;obtain⟨hl,G,ds,M,R,EM,sub,m,r,e,kk,ke⟩:=h;refine⟨_,Y (M0:=M) (G0:=G) (F0:=H) (EM:=EM) hr λO Z H1 s1 n a cls ai I Nn i y z q=>d0y O Z H1 s1 n a cls ai I Nn i y z (ke cls H1 q),?_⟩;have er:=uH (N:=N) sub r;exact z0!
end
section
variable{X:Cx}{own a8 g7:List Nat}{st:Stmt}{rest body b1 b2:List Stmt}{e c:Expr}{es:List Expr}{pos p2:Pos}{f:WE}{fs:WA}{ft:WT}{q1 q2:WS}{M0:Mh}{G0 F0:Hp}{E:EK}
abbrev TX(X:Cx)(M0:Mh)(G0 F0:Hp)(own σ:i_)(q:WS):TS:=Zx X.prog X.w X.K M0 G0 F0 own σ q
def d2j(h:pM_):PS X st ik_:=h.ok M0 G0 F0
def c7k(h:Tp X.nox own a8 rest q1):Ov X rest ik_:=Ov.nox (h.ok M0 G0 F0)
def a1q(B:PS X st ik_)(J:Ov X rest (TX X M0 G0 F0 a8 g7 q2)):Ov X ij! (TX X M0 G0 F0 own g7 (Ah q1 q2)):=λO s Z H D I ⟨G,ρ,M,R,sr,e,k1,k2⟩=>
 uX B J O s Z H D I zx_
def d0v(hc:kL!)(B:Ov X b1 ik_)(J:Ov X b2 (TX X M0 G0 F0 own a8 q2)):PS X ou! (TX X M0 G0 F0 own a8 (Av ft q1 q2)):=λO s Z H D I ⟨G,ρ,M,R,sr,e,k1,k2⟩=>by
 refine b6v hc.ok B J O s Z H D I zz_;cases b with
 |true=>exact lA k2!
 |false=>exact lB k2!
def Rr(C:xK!)(E:EK)(f:WE):WS:=λρ M _=>f ρ M λ_ M1=>E C M1
def b8f{x:Str}(hX:Lv X mg_)(hC:AC X.K C)(hh:ev!=none)(hg:M_)(hm:gr!)(he:bH!)
  (av:B_:=by decide)(hst:starEach [e] X.env=[dL!]:=by rfl):
  PS X (.Raise (some (.Call (.Name x np) [e] [] ag)) none pos) (TX X M0 G0 F0 own a8 (Rr C E f)):=λO s Z H D I ⟨G,ρ,M,R,sr,e',k1,k2⟩=>
 b3n hX hC hh hg hm he.ok av hst O s Z H D I ⟨G,ρ,M,_,sr.st,e',λd M' v G' H' r x m q=>⟨C,M',G',rfl,r,sr.x.trans x sr.st.mr,m⟩⟩
def Yx(P:z3!)(w:yt!)(K:z1!)(M0:Mh)(G0 F0:Hp)(own:i_)(f:WE):TE:=λZ H Q=>∃G ρ M R,Io P w K own M0 G0 F0 M G H Z ρ/\f ρ M R/\∀d M' v G' H',R d M'->XM M G H M' G' H'->MR P w K M' G' H'->Ar K G' d v->Q v H'
def Kn(n:Nat)(g:Yr)(E:EK)(fs:WA):WE:=λρ M R=>fs ρ M λds M1=>f_=n/\g ds M1 R E
def b1u{k:Nat}{ps:n!}{g:Yr}{x:Str}(hX:Lv X mg_)(F:AB X.prog X.w X.K X.mg X.base k x ps g)(hr:bv!)(hg:M_)(ha:fv_)
  (av:B_:=by decide)(he:am!:=by rfl)(ax:aQ!:=by rfl):
  PE X be_ (Yx X.prog X.w X.K M0 G0 F0 own (Kn ps.length g E fs)):=by
 show"#.";intro O s Z H Q I ⟨G,ρ,M,R,sr,e',k⟩;refine a1b B hr hg h3 h4 J .nil (c2n (E':=λcls _ H'=>XR X.prog X.w X.K M0 G0 F0 E cls H') hX λ_ _ z=>z) ha.ok av he ax O s Z H Q I ⟨G,ρ,M,_,sr.st,e',zT!⟩;show FC X.prog X.w X.K ps.length g (vs++[]) H1 Q _;rw[HV];refine⟨zT_,G1,ds,M1,R,E,x1.sub,m1,q1,r1.2,ps_,λcls H' ⟨c,M',G',h5,h6,h7,h8⟩=>?_⟩;exact⟨c,M',G',h5,h6,(sr.x.trans x1 sr.st.mr).trans h7 m1,h8⟩
def c7j{i:Nat}{x:Str}(hN:aW_)(hi:ad_)(hx:bb!)(h:rM!)(bq:aT!:=by decide)(hs:os_:=by rfl)
  (hf:X.fn x=true\/X.env.scope.names.lookup x=some .local:=by first|exact .inl rfl|exact .inr rfl|assumption):PS X (.Assign [.Name x p2] e pos) (TX X M0 G0 F0 own own (An i f)):=λO s Z H D I ⟨G,ρ,M,R,sr,e',k1,k2⟩=>
 uY hN hi hx h hs hf O s Z H D I ⟨G,ρ,M,_,sr,e',zz!⟩
def c3a(h:rM!)(hs:mc!:=by rfl):PS X mc_ (TX X M0 G0 F0 own own (Bm f)):=λO s Z H D I ⟨G,ρ,M,R,sr,e',k1,k2⟩=>
 oO h hs O s Z H D I ⟨G,ρ,M,_,sr,e',zB!⟩
def Xa(n ix:Nat)(hv:rM_)(q:EK->WS):WS:=λρ M R=>q (λc M1=>El (hv c) λd=>R (.nx ((rx!).set ix dh!)) M1) ρ M R
def c7n{xC en xn:Str}{ap:Pos}{ie ix:Nat}{hv:rM_}{hw:Addr->Option V}{q:EK->WS}(tc:l5_)
  (u7:∀a pn oe c,gT!∈pn->oe.cls=.ref c->PE l6_ he λZ H Q=>Z[ie]?=some ky!/\∃v,hw c=some v/\Q v H)
  (hvw:∀c d,hv c=some d->W.subIn X.K cO! aY!=some true/\∃v,hw c=some v/\∀G,Ar X.K G d v)
  (Y:∀pn f M0 G0 F0 E,Lv ez_ mg_->Ov ez_ body (TX X M0 G0 F0 [] [] (q E)))
  (fq:l7_:=by rfl)(av:ie_:=by decide):
  MS X [] [] rE_ (Xa X.N.length ix hv q):=⟨λM0 G0 F0 O s Z H D I ⟨G,ρ,M,R,sr,e,k1,k2⟩=>by
 refine c6j (hv:=hw) (t:=λRR D Z H=>∃E,(∀cls H',XR X.prog X.w X.K M0 G0 F0 E cls H'->RR cls H')/\TX X M0 G0 F0 [] [] (q E) D Z H) tc u7
  (λpn f RR lv O s Z H D I ⟨E,hE,h⟩=>Y pn f M0 G0 F0 E (λp1 p2 p3 p4 p5 p6 p7 p8 p9 p10 p11 p12 p13 z=>lv p1 p2 p3 p4 p5 p6 p7 p8 p9 p10 p11 p12 p13 (hE _ _ z)) O s Z H D I h) fq av O s Z H D I ⟨_,?_,G,ρ,M,R,sr,e,k1,k2⟩
 rintro cls H' ⟨c,M',G',rfl,e',x,m⟩;obtain⟨d,hd,hR⟩:=cS e';obtain⟨hs,v,ym,rep⟩:=hvw c d hd;refine⟨c,v,rfl,hs,ym,k1 _ M' G' _ H' hR ⟨⟨⟨x.sub,by unfold Qj;simp,λj d' q _=>?_,im_,im_⟩,m,im_⟩,x,im_⟩⟩;have hl:ix<lH_:=(HC.mp tc.hix).1;by_cases hj:j=ix
 .subst hj;rw[IL in_]at q;cases q;exact⟨v,IL in_,rep G'⟩
 .rw[lT!,KM]at q;split at q<;>cases q⟩
end
section
variable{X:Cx}{own:List Nat}{pos p1 p2 p3:Pos}
def b5b:Ip X jY_ λxs H Q=>∃a C1 oe,xs=[b6_,.ref C1]/\gT!∈X.pn/\oe.cls=.ref C1/\Q A! H:=by intro O s Z H xs us Q I r h;obtain⟨a,C1,oe,rfl,hp,hc,q⟩:=h;obtain⟨u,w',rfl,r1,r2⟩:=yJ r;cases (show u=Value.ref a from r1);cases (show w'=Value.ref C1 from r2);have he:=(I.pin _ iw!).1;exact W.isi_call I.kIn (λM A' Q' E' s' k q=>GM rv!) (by simp[W.isIn]) d2! ⟨eC_,H,I,rfl,q⟩
def BL(C1:xK!)(c:xK!):Option D:=if c=C1 then some A! else none
def CL(C1:xK!)(c:xK!):Option V:=if c=C1 then some A! else none
def c2l{en xC:Str}{ie:Nat}(hN:X.N[ie]?=some en)(hk:X.env.scope.names.lookup en=some .local)(hg:wm!)(hm:wl!)(hv:wl_)(ze:Gl X xC)(ub:X.mg xC=some (.ref C1))
  (hd:ie_:=by decide)(hd3:(en==lY_)=false:=by decide)(hd4:(en==ro!)=false:=by decide)
  (he:starEach rO_ X.env=(false,eval (.Name en p2) X.env)::starEach [ip!] X.env:=by rfl)(qr:starEach [ip!] X.env=(false,eval (.Name xC p3) X.env)::starEach [] X.env:=by rfl)
  (ax:(backTo pos (starEach [ip!] X.env)).any b_=false:=by rfl):
  ∀a pn oe c,gT!∈pn->oe.cls=.ref c->PE l6_ (.Call (.Name "isinstance" p1) rO_ [] pos) λZ H Q=>Z[ie]?=some ky!/\∃v,CL C1 c=some v/\Q v H:=λa pn oe c hp hc O s Z H Q I ⟨e1,v,e2,q⟩=>by
 unfold CL at e2;split at e2
 .rename_i h;subst h;cases e2;exact oQ (X:=mj_) b5b hg hm hv (dD (kB (X:=mj_) hN lV! hd3 hd4) (dD (b1k (X:=mj_) (v:=V.ref c) ze ub rfl hd) fR qr) he) d! d! he ax O s Z H Q I ⟨b6_,e1,a,c,oe,rfl,hp,hc,q⟩
 .cases e2
def hvw(h:W.subIn X.K (.ref C1) aY!=some true):∀c d,BL C1 c=some d->W.subIn X.K cO! aY!=some true/\∃v,CL C1 c=some v/\∀G,Ar X.K G d v:=λc d e=>by
 unfold BL at e;unfold CL;show"!7"
 .rename_i h';subst h';cases e;exact⟨h,_,m_,λG=>Ar.bl⟩
 .cases e
def Uj(i:Nat):WE:=λρ M R=>ρ[i]?=some (some eE_)/\∀x,R cU_ M
def c3f{i k:Nat}{x s2:Str}{j:Nat}(hr:bv!)(hN:ad_)(hv:cp_)(hi:aT!)(hs:s2.length<=100:=by decide)(hd:B_:=by decide)(bv:cq!:=by decide):
  ME X own (.JoinedStr [.FormattedValue (.Name x p1) (-1) none p2,.Constant (.str s2) j p3] pos) (Uj i):=⟨λO s Z H Q I ⟨G,ρ,M,R,st,⟨e1,e2⟩,k⟩=>by
 obtain⟨v,f1,f2⟩:=st.or.at_ i _ e1 hi;obtain⟨a,vs,rfl,qa,rr⟩:=bO f2;obtain⟨v1,t1,rfl,r1,rr⟩:=bJ rr;obtain⟨v2,t2,rfl,r2,rr⟩:=bJ rr;cases cM rr;cases bA r1;cases bA r2;have h9:(rS!).shown.length<=100:=by decide+kernel
 have big:1000<=sizeLine:=by decide
 refine JoinedStr_many (joinParts_cons (FormattedValue_plain (dA (kB hN hv hd bv O s Z H (λv H'=>v=.ref a/\H'=H) I ⟨_,f1,rfl,rfl⟩) ?_)));rintro u s' ⟨x,H',I',r,rfl,rfl⟩;cases sL!;obtain⟨its,vr,⟨o,B,J,n,h3⟩,_⟩:=I'.tuple (bS st.or.sub qa);obtain⟨u1,u2,rfl,w1,w2⟩:=yJ vr;obtain⟨k1,rfl⟩:=w1;obtain⟨k2,rfl⟩:=w2;have un:=hr.un;have dp:(rS!).depth<=5:=by decide
 refine formatField_of_reads (d:=.tuple ip_) (.tuple B J h3 (.cons (.int 9 k1) (.cons (.int 9 k2) .nil))) rfl (λz=>Bool.noConfusion z) hr.gd a! (λb o e=>e) (λh' u tk hk=>⟨by rw[Str.empty_append];omega,?_⟩) a!;rw[Str.empty_append];refine joinParts_cons (Calls.Constant_str ⟨by simp only[strLen_append];omega,?_⟩);refine joinParts_nil ?_ (by simp only[strLen_append];omega);have I2:=((I'.un (t':=s'.toks) (Un.kept hk) (I'.hok.kept hk)).tok tk).tok;exact⟨.str _,_,I2 _,I!,k _ M _ G _ (e2 _) kI_ st.mr Ar.str⟩⟩
end
end DL
namespace DL
open PySem PySem.Spec PyProof.Rows L2
def Uu(M:Mh):List D->Option D
 |[d]=>(Dl M d).map λq=>.int q.2.1.length
 |_=>none
def Yh:List V->Hp->VK->Prop:=λxs H Q=>∃d es ep,xs=hP!/\H d=some cM!/\Q (.int U_) H
def c0f(hd:pZ!):MeetsIn P w (Builtin.«dict.__len__» ⟨hP!,[]⟩) λ_ R s=>∃es ep,Oa s.heap d es ep/\R (.ok (.ret (.int es.length s.toks))) {s with toks:=s.toks+1}:=
 .of_wp λA R s ⟨es,ep,⟨o,ho,hc,w9⟩,h⟩=>by
  show wpAny _ _ (dictSize d>>=_) _ _ s;unfold dictSize;refine GM (GM (KG ho w9 X!));show wpAny _ _ (Builtin.Dict.pendingCount d>>=_) _ _ s;refine GM (wpAny_pendingCount_other hd ?_);refine wpAny_ret_mkInt ?_;rw[QP];simpa using h
def a3z{X:Cx}:Ip X mQ! Yh:=by intro O s Z H xs us Q I r ⟨d,es,ep,e1,e2,q⟩;subst e1;obtain⟨u,rfl,rx⟩:=rY r;cases rx;obtain⟨⟨h3,h4,h5⟩,_⟩:=lw!;have Y:U_<2 ^ 63:=KI h5 d!;exact PyProof.Rows.call_len_slot h3.typeIs F.slot_dict_len (λQ' hq=>call_meetsIn F.slot_dict_len h3.typeIs F.entry_dict_len (F.args_dict_len_1 _) (c0f h4) ⟨es,ep,h3,hq⟩) a! a! ⟨.int U_,H,(iQ!).tok _,I!,q⟩
def c4t{K:z1!}:Qv P w K Yh Uu:=by
 show"!V";unfold Uu at e;show"!7"
 .obtain⟨q,e1,rfl⟩:=GU.mp e;show"!4";exact⟨q.1,es,q.2.2,rfl,B,by rw[<-LN J.1];exact k _ _ _ aC_ Ar.int⟩
 .cases e
end DL
namespace K25
open PySem L2 DL
nonrec def top(i:Nat):Stmt:=PySem.Challenge.pw_manyhands_k25_whole_no_rings.main.body.getD i rV!
def Kk(i j:Nat):Stmt:=match top i with
 |.ClassDef _ _ _ b _ _ _ _ _ _ _=>b.getD j rV!
 |s=>s
structure Ay where
 mk::
 A0:Addr
 A5:Addr
 A6:Addr
 A7:Addr
 A8:Addr
 A9:Addr
 B0:Addr
 B1:Addr
 B2:Addr
 B3:Addr
 B4:Addr
 B5:Addr
 HandsError:Addr
 NotThere:Addr
abbrev Om:Stmt:=top 12
def a4n:Aj o! o! (Ae Om):=h_
abbrev Oo:Stmt:=top 13
def a4p:Aj f2! f2! (Ae Oo):=h_
abbrev Ko:Stmt:=top 14
def uP:Aj o! o! (Ae Ko):=h_
abbrev Pp:Stmt:=top 15
def a8g:Aj o! o! (Ae Pp):=h_
abbrev Jw:Stmt:=top 16
def sX:Aj o! o! (Ae Jw):=h_
abbrev Pq:Stmt:=top 17
def a8h:Aj o! o! (Ae Pq):=h_
abbrev Mg:Stmt:=top 18
def xE:Aj o! o! (Ae Mg):=h_
abbrev Nb:Stmt:=top 19
def a0r:Aj o! o! (Ae Nb):=h_
abbrev Pn:Stmt:=top 20
def a8e:Aj dD_ dD_ (Ae Pn):=h_
abbrev Mp:Stmt:=top 21
def a8d:Aj o! o! (Ae Mp):=h_
abbrev On:Stmt:=top 22
def a4o:Aj o! o! (Ae On):=h_
abbrev Jm:Stmt:=top 24
def a0s:Aj f2_ f2_ (Ae Jm):=h_
abbrev Pr:Stmt:=top 25
def a8i:Aj o! o! (Ae Pr):=h_
abbrev Jx:Stmt:=top 26
def sY:Aj o! o! (Ae Jx):=h_
abbrev Iy:Stmt:=top 27
def qK:Aj bM! bM! (Ae Iy):=h_
abbrev Oq:Stmt:=top 28
def a4q:Aj aZ! aZ! (Ae Oq):=h_
abbrev Rf:Stmt:=Kk 30 0
def b3i:Aj bl_ bl_ (Ae Rf):=h_
abbrev Nd:Stmt:=Kk 30 1
def a0t:Aj W! W! (Ae Nd):=h_
abbrev Ij:Stmt:=Kk 30 2
def fN:Aj rX_ mp_ (Ae Ij):=h_
abbrev Jy:Stmt:=Kk 30 3
def gU:Aj rY! W! (Ae Jy):=h_
abbrev Mi:Stmt:=Kk 30 4
def gF:Aj rZ! bl_ (Ae Mi):=h_
abbrev Mj:Stmt:=Kk 31 0
def xF:Aj bl_ bl_ (Ae Mj):=h_
abbrev Ks:Stmt:=Kk 31 1
def uQ:Aj W! W! (Ae Ks):=h_
abbrev Hj:Stmt:=Kk 31 2
def mY:Aj W! W! (Ae Hj):=h_
abbrev Gv:Stmt:=Kk 31 3
def gH:Aj f5! f5! (Ae Gv):=h_
abbrev Kr:Stmt:=Kk 31 4
def lC:Aj rZ_ cX! (Ae Kr):=h_
abbrev Hk:Stmt:=Kk 31 5
def mZ:Aj f5_ f5_ (Ae Hk):=h_
abbrev Jz:Stmt:=Kk 31 6
def sZ:Aj cX! cX! (Ae Jz):=h_
abbrev Ja:Stmt:=Kk 31 7
def dI:Aj r0_ mr_ (Ae Ja):=h_
abbrev Kt:Stmt:=Kk 31 8
def iB:Aj r2! ms! (Ae Kt):=h_
abbrev Gg:Stmt:=Kk 31 9
def kY:Aj f6_ f6_ (Ae Gg):=h_
abbrev Fu:Stmt:=Kk 31 11
def kA:Aj W! W! (Ae Fu):=h_
abbrev Ht:Stmt:=top 33
def nK:Aj bM! bM! (Ae Ht):=h_
abbrev Mf:Stmt:=top 34
def iZ:Aj r4! aZ! (Ae Mf):=h_
abbrev Rb:Stmt:=top 35
def jH:Aj r4_ aZ! (Ae Rb):=h_
abbrev Um:Stmt:=top 36
def c1v:Aj f7! f7! (Ae Um):=h_
abbrev Rc:Stmt:=top 37
def jI:Aj r5! aZ! (Ae Rc):=h_
abbrev Pz:Stmt:=Kk 40 0
def a8j:Aj f7_ f7_ (Ae Pz):=h_
abbrev Nf:Stmt:=Kk 40 1
def a0w:Aj f8! f8! (Ae Nf):=h_
abbrev Nc:Stmt:=top 41
def jZ:Aj r6! br! (Ae Nc):=h_
abbrev Me:Stmt:=top 42
def xD:Aj br! br! (Ae Me):=h_
abbrev Mz:Stmt:=top 43
def a0p:Aj as_ as_ (Ae Mz):=h_
abbrev Po:Stmt:=top 44
def a8f:Aj as_ as_ (Ae Po):=h_
abbrev Na:Stmt:=top 45
def a0q:Aj f8_ f8_ (Ae Na):=h_
abbrev Iz:Stmt:=top 46
def dH:Aj r6_ bN! (Ae Iz):=h_
abbrev Kq:Stmt:=top 47
def fM:Aj r7_ mt_ (Ae Kq):=h_
abbrev Gk:Stmt:=top 48
def qL:Aj bN! bN! (Ae Gk):=h_
abbrev Re:Stmt:=top 49
def b3h:Aj as_ as_ (Ae Re):=h_
abbrev Et:Stmt:=top 50
def dP:Aj r8_ br! (Ae Et):=h_
abbrev Pm:Stmt:=top 51
def uO:Aj r9_ as_ (Ae Pm):=h_
abbrev Ul:Stmt:=top 52
def tM:Aj sa! bN! (Ae Ul):=h_
abbrev Jv:Stmt:=top 54
def kU:Aj sa_ mu_ (Ae Jv):=h_
abbrev Sq:Stmt:=top 55
def jJ:Aj sc! iy! (Ae Sq):=h_
abbrev Sv:Stmt:=top 57
def b5x:Aj cY! cY! (Ae Sv):=h_
abbrev Uo:Stmt:=top 58
def a0u:Aj y3_ cY! (Ae Uo):=h_
abbrev Rh:Stmt:=top 59
def b3j:Aj [b3_] [b3_] (Ae Rh):=h_
abbrev Od:Stmt:=top 61
def b3k:Aj aF! aF! (Ae Od):=h_
abbrev Ri:Stmt:=top 62
def mJ:Aj y5_ aF! (Ae Ri):=h_
abbrev Pt:Stmt:=top 63
def a4r:Aj y6! pA_ (Ae Pt):=h_
abbrev Ss:Stmt:=top 64
def b5v:Aj f9_ f9_ (Ae Ss):=h_
abbrev Py:Stmt:=top 65
def eY:Aj sf! mz_ (Ae Py):=h_
abbrev Rg:Stmt:=top 66
def fK:Aj sg! mA_ (Ae Rg):=h_
abbrev Os:Stmt:=top 67
def gJ:Aj sh! aF! (Ae Os):=h_
abbrev Ps:Stmt:=top 68
def nL:Aj sh_ aF! (Ae Ps):=h_
abbrev Pw:Stmt:=top 69
def jL:Aj si_ cZ_ (Ae Pw):=h_
abbrev Pv:Stmt:=top 70
def uR:Aj sk! mB_ (Ae Pv):=h_
abbrev Su:Stmt:=top 71
def b5w:Aj cZ_ cZ_ (Ae Su):=h_
abbrev Px:Stmt:=top 72
def iC:Aj sl_ mD_ (Ae Px):=h_
abbrev Sr:Stmt:=top 73
def oI:Aj sm! aF! (Ae Sr):=h_
abbrev Jn:Stmt:=top 74
def a0v:Aj ga_ ga_ (Ae Jn):=h_
abbrev Rj:Stmt:=top 76
def jK:Aj mF! gb! (Ae Rj):=h_
abbrev Rk:Stmt:=top 77
def gB:Aj sn! mH_ (Ae Rk):=h_
abbrev Oc:Stmt:=top 78
def iY:Aj so! [bc!] (Ae Oc):=h_
def Qb:Ad->Option Fl:= (Be (Cc (Dj "int" l_) (Cc sp! (f2 Je (f1 Ft aZ_) (f2 Fw (fC (.int 10)) sp_)))))
def Fm:List D->Option D:=Bw o! 1 (Qb)
def Qd:Ad->Option Fl:= (Be (Cc (f1 Fm aZ_) (Cb Jj Je D_ l_ w!)))
def Gp:List D->Option D:=Bw f2! 2 (Qd)
def Ml:Ad->Option Fl:= (Be (Cc (f1 Fm aZ_) (f2 Nk l_ r!)))
def Dv:List D->Option D:=Bw o! 1 (Ml)
def Oe:Ad->Option Fl:= (sSeq (Fs (Ls iD! (fT (f2 Lb dG! W_))) c0! Cn) (Be (Cc (f1 Gp (Ab aP! (Ab gb_ Af))) (f1 Dv (Ab b4! Af)))))
def Eb:List D->Option D:=Bw o! 1 (Oe)
def Kv:Ad->Option Fl:= (sSeq (Fs (Ls iD! (fT (f2 Lb dG! ae!))) c0! Cn) (Be (Cc ss_ (f1 Gp (Ab gc! (Ab gb_ Af))))))
def Ea:List D->Option D:=Bw o! 1 (Kv)
def Ln:Ad->Option Fl:= (Be (Ev (f1 Eb aZ_) (Ev (f2 Bb l_ gd!) (f2 Bb l_ iG!))))
def Go:List D->Option D:=Bw o! 1 (Ln)
def Jo:Ad->Option Fl:= (Be (Ev su! (f1 Eb aZ_)))
def Ey:List D->Option D:=Bw o! 1 (Jo)
def Kx:Ad->Option Fl:= (Be (Ev su! (f1 Ea aZ_)))
def Fq:List D->Option D:=Bw o! 1 (Kx)
def Rn:Ad->Option Fl:= (Be (Cc (Cb Jj Jj (fC (.str " ")) l_ (fC (.str "~"))) (f2 Lb (f1 Xo aZ_) (fC (.int 37)))))
def Gm:List D->Option D:=Bw dD_ 1 (Rn)
def Rm:Ad->Option Fl:= (sSeq (Fs (Ls (Ct (fT (Dj "str" l_))) (Ct (fT (Cb Jj Jj r! dG! gb_)))) c0! Cn) (Be (f1 Ll (Ab (Ep 1 [] (Zk l_) N_ ai! iH!) Af))))
def Jh:List D->Option D:=Bw o! 1 (Rm)
def Qc:Ad->Option Fl:= (Be (f1 Gp (Ab l_ (Ab ge_ Af))))
def Hz:List D->Option D:=Bw o! 1 (Qc)
def Hq(t:Ay):List cf!:=[("put",.tup [dH_,.fn t.A5]),("move",.tup [dH_,dH_,.fn t.A5]),("drop",.tup [dH_]),("write",.tup [dH_,.fn t.A6,.fn t.A7]),("cut",.tup sy!),("set",.tup [dH_,.fn t.B0,.fn t.B1]),("undo",.tup [.fn t.B2]),("redo",.tup [.fn t.B2])]
def Km(t:Ay):Addr->Option w7!:=λa=>if a=t.A0 then some Go else if a=t.A5 then some Ey else if a=t.A6 then some Fq else if a=t.A7 then some Jh else if a=t.A8 then some Ea else if a=t.A9 then some Dv else if a=t.B0 then some Hz else if a=t.B1 then some Fm else if a=t.B2 then some Eb else none
def Ot(t:Ay):Ad->Option Fl:= (sSeq (Fs (fT (f2 Lb dG! dI!)) c0! Cn) (Be (f1 Ll (Ab (Ep 2 [] (Zj w! l_) iI_ ai! iJ!) Af))))
def Gz(t:Ay):List D->Option D:=Bw f2_ 2 (Ot t)
def Of(t:Ay):Ad->Option Fl:= (sSeq (Fs (Ls iD! (fT (f2 Bb dG! D_))) c0! Cn) (sSeq (Fs (Ls (Ct (fT (Dj "str" aP!))) (fT (Xp gg! true aP!))) c0! Cn) (sSeq (Fs (Ct (fT (f1 (Gz t) (Ab (En l_ (At r!) Au) (Ab (Ux gg! aP!) Af))))) c0! Cn) (Be (Ev (f2 Lb aP! (fC dJ!)) (f2 Jj (f2 Al (f2 Ai gc! W_) mS_) gb_))))))
def Hr(t:Ay):List D->Option D:=Bw o! 1 (Of t)
def Kw(t:Ay):Ad->Option Fl:= (sSeq (Fs (Ls iD! (fT (f2 Lb dG! ge_))) c0! Cn) (Be (Cc ss_ (Cc (f1 Dv (Ab gc! Af)) (f1 (Hr t) (Ab mS_ Af))))))
def Ca(t:Ay):List D->Option D:=Bw o! 1 (Kw t)
def Kb:Ad->Option Fl:= (Be (As (Ab gc! (Ab aP! Af))))
def Dc:List D->Option D:=Bw bM! 1 (Kb)
def Qe:Ad->Option Fl:= (Be (Ub Dc l_))
def De:List D->Option D:=Bw aZ! 1 (Qe)
def Wf(t:Ay):WS:= (Ah (Dz t.B5 "following" j_ sF!) (Dz t.B5 "preceding" j_ sF!))
def Ha(t:Ay):WF:=Cz bl_ 1 (Wf t)
def Kz(t:Ay):WS:= (Bn (Mc (wl iK!) (w2 a0! w_ c1_)))
def Hb(t:Ay):WF:=Cz W! 2 (Kz t)
def Jc(t:Ay):WS:= (Ah (An 3 (AD (wT (Bh t.B5 "holds" 2 (Hb t) j_ gh!)) I_ b5_)) (Ah (An 4 (w2 Co c1_ al_)) (Ah (Cd c1_ al_ w_) (Ah (Cd iK_ w_ al_) (Ah (Cd c1_ w_ aB!) (Cd iK_ aB! w_))))))
def Cr(t:Ay):WF:=Cz rX_ 3 (Jc t)
def Ky(t:Ay):WS:= (Ah (An 2 (Xb iK_ w_)) (Ah (An 3 (Xb c1_ w_)) (Ah (Cd c1_ I_ al_) (Cd iK_ al_ I_))))
def Ia(t:Ay):WF:=Cz rY! 2 (Ky t)
def Ni(t:Ay):WS:= (Ah gh_ (Ah (An 2 (w2 Co c1_ b5_)) (Ah (Fj sI! sI_) b6!)))
def Jq(t:Ay):WF:=Cz rZ! 1 (Ni t)
def Ry(t:Ay):WS:= (Ah (Dz t.B4 "parents" j_ (Ol (Ek (wl gd!) b5_ (Ek iM_ b5_ Mw)))) (Ah (Dz t.B4 "rows" j_ (Ol (Ek (wl gd!) iO! (Ek iM_ iO! Mw)))) (Ah (Dz t.B4 "texts" j_ Fg) (Ah (Dz t.B4 "numbers" j_ Fg) (Ah (Dz t.B4 "written" j_ Fg) (Dz t.B4 "hidden" j_ Fg))))))
def Ho(t:Ay):WF:=Cz bl_ 1 (Ry t)
def Mm(t:Ay):WS:= (Bn (w2 a0! w_ cu!))
def Cj(t:Ay):WF:=Cz W! 2 (Mm t)
def Hu(t:Ay):WS:= (Bn (w2 a0! w_ gi!))
def Cs(t:Ay):WF:=Cz W! 2 (Hu t)
def Lx(t:Ay):WS:= (Ah (Fj gi_ gj!) (Bn (wl iK!)))
def Fd(t:Ay):WF:=Cz f5! 3 (Lx t)
def Qx(t:Ay):WS:= (Ah sO! (Ah sP! (Ah sP_ (Ah sQ_ (Ah sR_ sS!)))))
def Iv(t:Ay):WF:=Cz rZ_ 4 (Qx t)
def Hv(t:Ay):WS:= (Bn (Mc mX! (Mc sN_ (Vs (Bh t.B4 "is_within" 3 (Fd t) j_ iR!)))))
def Fn(t:Ay):WF:=Cz f5_ 3 (Hv t)
def Qf(t:Ay):WS:= (Ah (Av (Jl (wT (Bh t.B4 "can_move" 3 (Fn t) j_ (Ac w_ gh!)))) Pl By) (Ah (Bm (Bh t.B5 "take_out" 2 (Ia t) (w2 Co cu! mV!) c2!)) (Ah (Bm (Bh t.B5 "put_behind" 3 (Cr t) (w2 Co cu! I_) mW!)) (Cd mU_ w_ I_))))
def Fz(t:Ay):WF:=Cz cX! 4 (Qf t)
def Kc(t:Ay):WS:= (Ah (Av (Jl (wT (Bh t.B4 "has_item" 2 (Cs t) j_ gh!))) Pl By) (Ah (An 5 al_) (Df (Lw (Sb G!)) (Uy 6 7) (Ah mY! (Ah sU_ (Ah sW! (An 5 eL_)))))))
def Hh(t:Ay):WF:=Cz r0_ 5 (Kc t)
def Mn(t:Ay):WS:= (Ah (Av (Jl (wT mX!)) Pl By) (Df (Lw (Sa dK_ q0_)) gm! (Ah sY_ sZ!)))
def Iw(t:Ay):WF:=Cz r2! 4 (Mn t)
def Gw(t:Ay):WS:= (Av (wT mX!) (Cd (w2 Co sR! w_) I_ al_) By)
def Ex(t:Ay):WF:=Cz f6_ 4 (Gw t)
def Gh(t:Ay):WS:= (Bn (Bh t.B5 "listed" 1 (Jq t) (w2 Co cu! w_) Ag))
def Dm(t:Ay):WF:=Cz W! 2 (Gh t)
def Nh:Ad->Option Fl:= (Be (Ev (f2 Bb iT_ iU!) (f2 Bb iT_ (fC m0!))))
def Ax:List D->Option D:=Bw bM! 1 (Nh)
def Rx:WS:= (Ah (An 1 Fg) (Ah (Df (Lw (Eo iU_)) be! s2!) b6!))
def Fy:WF:=Cz r4! 1 (Rx)
def Wb:WS:= (Ah (An 1 (Ao 1 Fy bu!)) (Ah go! (Ah (Df (Lw eN!) P! iW_) eO!)))
def Lg:WF:=Cz r4_ 1 (Wb)
def Zh(t:Ay):WS:= (Av s6! (Bm (Bh t.B4 "put" 4 (Iv t) j_ (Ac w_ (Ac b8! (Ac go_ Ag))))) (Av s6_ (Bm (Bh t.B4 "move" 4 (Fz t) j_ gp!)) (Av s9_ (Bm (Bh t.B4 "move" 4 (Fz t) j_ ta_)) (Av tb_ (Bm (Bh t.B4 "write" 5 (Hh t) j_ (Ac w_ gp!))) (Av tc_ (Bm (Bh t.B4 "cut" 4 (Iw t) j_ gp!)) (Av te! (Bm (Bh t.B4 "set_number" 4 (Ex t) j_ gp!)) By))))))
def Mt(t:Ay):WF:=Cz f7! 3 (Zh t)
def Wc(t:Ay):WS:= (Ah te_ (Ah (An 2 (Ao 1 Lg bu!)) (Ah (Df (Lw (Eo iU_)) P! (Ah eN_ th!)) b6!)))
def Hy(t:Ay):WF:=Cz r5! 1 (Wc t)
def Vg(t:Ay):WS:= (Ah ti! tj_)
def Lr(t:Ay):WF:=Cz f7_ 2 (Vg t)
def Tg(t:Ay):WS:= (Bn tk_)
def Eh(t:Ay):WF:=Cz f8! 2 (Tg t)
def Tb(t:Ay):WS:= (Ah gh_ (Ah (Df (Oj dO_) be! (Vt 1 m7!)) m8!))
def Ew(t:Ay):WF:=Cz r6! 1 (Tb t)
def Rw(t:Ay):WS:= (Ah to_ (Bn gt!))
def Em(t:Ay):WF:=Cz br! 1 (Rw t)
def Sz(t:Ay):WS:= (Bn tq!)
def Fp(t:Ay):WF:=Cz as_ 2 (Sz t)
def Ve(t:Ay):WS:= (Bn tr!)
def Gn(t:Ay):WF:=Cz as_ 2 (Ve t)
def Ta(t:Ay):WS:= (Ah tr_ (Bn (w2 Co (w2 Co (w2 Co dO_ w_) (wl (BM r!))) (wl W_))))
def Gy(t:Ay):WF:=Cz f8_ 2 (Ta t)
def Ox(t:Ay):WS:= (Ah go! (Ah (Df tu! P! (Ah eN_ (Ah tw_ ty!))) eO!))
def Dd(t:Ay):WF:=Cz r6_ 2 (Ox t)
def Qw(t:Ay):WS:= (Ah go! (Df ty_ P! (Ah tz_ (Ah tC_ tC!))))
def Gr(t:Ay):WF:=Cz r7_ 2 (Qw t)
def Oy(t:Ay):WS:= (Ah (Av (Dh (Ct tD_)) Hs By) tE!)
def Fh(t:Ay):WF:=Cz bN! 2 (Oy t)
def We(t:Ay):WS:= (Ah tE_ m6_)
def Lh(t:Ay):WF:=Cz as_ 2 (We t)
def Og(t:Ay):WS:= (Ah (An 1 aP_) (Ah tG_ (Ah (Fj tH_ (Ah Hs (Ah (Bm (Ao 2 (Lh t) (Ac j_ (Ac (wl bu_) Ag)))) (Ah (Sn 1 (wl r!)) tG_)))) b6!)))
def Ec(t:Ay):WF:=Cz r8_ 1 (Og t)
def Vd(t:Ay):WS:= (Ah tL! (Ah (An 2 (Vb (Ao 2 (Fp t) b8_) (w2 a0! w_ eS!))) (Ah (Av (Gj (Dh (Ct (fT v!))) (wT (w2 (λ_=>Je) (w1 Pb (Ac eS! Ag)) (wl (fC (.int 8)))))) (Bm (Mx eS! w_)) By) (Bn aP_))))
def Jg(t:Ay):WF:=Cz r9_ 2 (Vd t)
def Zg(t:Ay):WS:= (Ah tL_ (Ah (An 2 aP_) (Ah (Df nh_ P! (Sn 2 tM!)) eO!)))
def Se(t:Ay):WF:=Cz sa! 2 (Zg t)
def Ka(t:Ay)(E:EK):WS:= (Ah ni_ nj!)
def Dr(t:Ay):Yr:=λds M R E=>Cz sa_ 2 (Ka t E) ds M R
def Sy(t:Ay)(E:EK):WS:= (Ah tP! (Ah (Rq i7_) (Ah nj_ (Ah (Fj (wT tQ!) (Ah tQ_ (Ah tR! (Df tS! c7_ (Bm tT_))))) i9_))))
def Lf(t:Ay):Yr:=λds M R E=>Cz sc! 2 (Sy t E) ds M R
def Ph(t:Ay):WF:=λds M R=>Lf t ds M R λ_ _=>False
def Rz:Ad->Option Fl:= (sSeq (Fs (λρ=>((l_) ρ).bind Vc) tU! Cn) (Be D_))
def No:List D->Option D:=Bw cY! 2 (Rz)
def Wh:Ad->Option Fl:= (sSeq (Bv 2 (f2 Bz (f2 Al (f1 No (Ab l_ b5!)) (f2 Ef (fC (.int 104729)) tV_)) (fC (.int 4294967291)))) (sSeq (Bv 2 (f2 Bz (f2 Ef v! (fC (.int 48271))) (fC (.int 4294967279)))) (Be (f2 Bz (f2 Al (f2 Ef (f2 Cg v! (fC (.int 64))) (fC (.int 69621))) v!) (fC (.int 4294967231))))))
def Bt:List D->Option D:=Bw y3_ 2 (Wh)
def Wg:Ad->Option Fl:= (Be (Cc (Dj "int" l_) sp!))
def Ji:List D->Option D:=Bw [b3_] 1 (Wg)
def Te:Ad->Option Fl:= (Be (f2 Al (f2 Al (fC (.lst [gc_])) (Ep 1 [] eN! N_ (fT nm_) (As gx_))) (fC (.lst [iF_,tX!]))))
def Ib:List D->Option D:=Bw aF! 1 (Te)
def Tc:Ad->Option Fl:= (sSeq (Ir 1 (Ab bT! (Ab (fC (.tup [ja!,ja!,aA_])) Af))) (sSeq (Ng eN! be! (Fs tX_ tZ! Cn)) (Be w!)))
def Lj:List D->Option D:=Bw y5_ 1 (Tc)
def Ur:Ad->Option Fl:= (sSeq (Bv 2 (fC (.str " abcXYZ.,;!019~[]\\\"'|{}<>@#$&*()-+/=_^:?`"))) (Be (Wl (fC (.str "")) (Ep 1 [0,2] (Fc nn_) N_ ai! t1_))))
def Nl:List D->Option D:=Bw y6! 2 (Ur)
def Ut:Ad->Option Fl:= tU!
def Cw:List D->Option D:=Bw f9_ 2 (Ut)
def Pg:Ad->Option Fl:= (sSeq t3_ (sSeq t4! (sSeq t5! (sSeq t6! (sSeq t6_ (sSeq t7! (sSeq t8! (sSeq t9_ (sSeq ua_ (sSeq ub_ (sSeq ue! (sSeq ue_ (sSeq ug! (sSeq uj! (sSeq uk_ ul!)))))))))))))))
def Jr:List D->Option D:=Bw sf! 4 (Pg)
def Qg:Ad->Option Fl:= (sSeq i7_ (sSeq (Ir 4 jj_) (sSeq (Ir 5 jj_) (sSeq (Ng (Fc v!) c7_ (sSeq un_ (sSeq uo_ (sSeq up! (sSeq uq! (sSeq uq_ ur_)))))) (Be F_)))))
def Li:List D->Option D:=Bw sg! 3 (Qg)
def Tx:WS:= (Ah gh_ (Ah (Df (Lw eN!) be! (Ah ut! (Ah (Fj (Dh (Cp ut_ uu!)) nu_) uv!))) b6!))
def Fo:WF:=Cz sh! 1 (Tx)
def Vf:WS:= (Ah (An 1 Fg) (Ah (Df nv! be! (Av ux! ux_ By)) b6!))
def Lp:WF:=Cz sh_ 1 (Vf)
def Xl:WS:= (Ah (An 4 (Dt 1 [1] nv_ N_ (Dh (fT uy!)) j_)) (Ah (An 5 aP_) (Ah (Fj (Dh (Cp uy_ uz_)) uA!) (Ah (Df (Lw (Fc eX_)) c7_ (Av uC_ uD! By)) (Cd j_ jl! (wl (f2 Al uF! uF_)))))))
def Ga:WF:=Cz si_ 4 (Xl)
def Xk:WS:= (Ah (Fj (Dh iP_) (Ah uG_ (Ah uH! (An 1 gu_)))) (Bn mZ_))
def Lq:WF:=Cz sk! 3 (Xk)
def Xj:WS:= (Av (Gj (wT (w2 a0! w_ by!)) (Wu (wT (w2 a0! I_ by!)) (wT (w2 a0! I_ nx_)))) (Av uK! uL! By) By)
def Ik:WF:=Cz cZ_ 4 (Xj)
def Wi:WS:= (Ah nz! (Ah nz_ (Av s6! (Ah uN_ (Ah nA! (Ah nC_ nF_))) (Av s6_ nG_ (Av s9_ nH! (Av (Gj te! (wT gB_)) uQ! (Av (Gj tb_ (wT gB_)) (Ah jp_ (Ah (An 6 aP_) (Ah (Df nI! (Bq 7) uS!) (Ah uU_ uW_)))) (Av (Gj tc_ (wT gB_)) (Ah uY! (Ah jp_ uY_)) By))))))))
def Uw:WF:=Cz sl_ 2 (Wi)
def Us:WS:= (Ah u1_ (Ah u2! (Ah (Df nv! P! (Av (Gj u2_ u3_) u4! By)) b6!)))
def Pi:WF:=Cz sm! 1 (Us)
def Tf:WS:= (Bn (Dt 1 [1] nv_ N_ (Dh (fT u6!)) (wl aP!)))
def Il:WF:=Cz ga_ 2 (Tf)
def Rl(g:WF):WS:= (Ah u7! (Ah (Df u7_ gm! (An 3 (w2 Jt al_ (Ao 3 g u8!)))) i9_))
def Td:Nat->WS
 |0=>λ_ _ _=>False
 |n+1=>Rl (Cz mF! 3 (Td n))
def Hc(n:Nat):WF:=Cz mF! 3 (Td n)
def Nj:Ad->Option Fl:= (sSeq (Ir 2 Af) (sSeq (Ng (Fc dI!) P! (sSeq u9_ (sSeq (Fs vb! (sSeq vb_ (sSeq vc! ve_)) Cn) (Ku 2 G!)))) (Be v!)))
def Nm:List D->Option D:=Bw sn! 2 (Nj)
def Yk(t:Ay):WS:= (Ah vh! (Ah vi_ (Ah vj! (Ah vj_ (Ah (An 4 gs!) (Ah (Df vk! (Bq 5) (Ah vk_ (Ah vl_ (Ah vn! vo!)))) (Ah vq! (Ah (An 6 jm!) (Ah vr! (Bn (wl aI_)))))))))))
def Yo(t:Ay):WF:=Cz so! 1 (Yk t)
structure Txt(P:z3!)(w:yt!)(K:z1!)(mg:y_)(t:Ay):Prop where
 D1:Gc K mg "is_whole" Om o!
 D2:Gc K mg "is_below" Oo f2!
 D3:Gc K mg "is_from_one" Ko o!
 D4:Gc K mg "is_name" Pp o!
 D5:Gc K mg "is_sign_name" Jw o!
 D6:Gc K mg "is_item" Pq o!
 D7:Gc K mg "is_sibling" Mg o!
 D8:Gc K mg "is_behind" Nb o!
 D9:Gc K mg "is_sign" Pn dD_
 E1:Gc K mg "is_text" Mp o!
 E2:Gc K mg "is_place" On o!
 E3:Gc K mg "are_parts" Jm f2_
 E4:Gc K mg "is_deed" Pr o!
 E5:Gc K mg "is_operation" Jx o!
 E6:Gc K mg "time_and_hand" Iy bM!
 E7:Gc K mg "in_order" Oq aZ!
 E8:Tt K mg "Row" t.B5 "Row.__init__" Rf bl_
 E9:Du K t.B5 "holds" "Row.holds" Nd W!
 F7:Du K t.B5 "put_behind" "Row.put_behind" Ij mp_
 F8:Du K t.B5 "take_out" "Row.take_out" Jy W!
 F9:Du K t.B5 "listed" "Row.listed" Mi bl_
 G6:Tt K mg "Outline" t.B4 "Outline.__init__" Mj bl_
 G7:Du K t.B4 "has" "Outline.has" Ks W!
 G8:Du K t.B4 "has_item" "Outline.has_item" Hj W!
 G9:Du K t.B4 "is_within" "Outline.is_within" Gv f5!
 H9:Du K t.B4 "put" "Outline.put" Kr cX!
 J0:Du K t.B4 "can_move" "Outline.can_move" Hk f5_
 J4:Du K t.B4 "move" "Outline.move" Jz cX!
 J5:Du K t.B4 "write" "Outline.write" Ja mr_
 J6:Du K t.B4 "cut" "Outline.cut" Kt ms!
 J7:Du K t.B4 "set_number" "Outline.set_number" Gg f6_
 J8:Du K t.B4 "children_of" "Outline.children_of" Fu W!
 J9:Gc K mg "is_undo_or_redo" Ht bM!
 K0:Gc K mg "last_words" Mf aZ!
 K4:Gc K mg "undone" Rb aZ!
 K6:Gc K mg "play" Um f7!
 K7:Gc K mg "played" Rc aZ!
 K8:Tt K mg "Hand" t.B3 "Hand.__init__" Pz f7_
 K9:Du K t.B3 "have" "Hand.have" Nf f8!
 L5:Gc K mg "all_taken" Nc br!
 L6:Gc K mg "outline_of" Me br!
 L7:Gc K mg "was_taken" Mz as_
 L8:Gc K mg "is_next" Po as_
 L9:Gc K mg "last_time" Na f8_
 M6:Gc K mg "not_yet_taken" Iz bN!
 M7:Gc K mg "check_times" Kq mt_
 M9:Gc K mg "check_message" Gk bN!
 N0:Gc K mg "accept" Re as_
 N3:Gc K mg "accept_waiting" Et br!
 N4:Gc K mg "receive" Pm as_
 N5:Gc K mg "take" Ul bN!
 N6:Gc K mg "outline_with" Jv mu_
 N7:Gc K mg "pages" Sq iy!
 N8:Gc K mg "_law_cell" Sv cY!
 N9:Gc K mg "_law_mix" Uo cY!
 O0:Gc K mg "_law_whole" Rh [b3_]
 O1:Gc K mg "_law_items" Od aF!
 O2:Gc K mg "_law_signs" Ri aF!
 O3:Gc K mg "_law_text" Pt pA_
 O4:Gc K mg "_law_pick" Ss f9_
 O5:Gc K mg "_law_deed" Py mz_
 O6:Gc K mg "_law_world" Rg mA_
 O7:Gc K mg "_law_ordered" Os aF!
 O8:Gc K mg "_law_undone" Ps aF!
 O9:Gc K mg "_law_hang" Pw cZ_
 P0:Gc K mg "_law_lies" Pv mB_
 P1:Gc K mg "_law_move" Su cZ_
 P3:Gc K mg "_law_do" Px mD_
 P4:Gc K mg "_law_play" Sr aF!
 P5:Gc K mg "_law_children" Jn ga_
 P6:Gc K mg "_law_pages" Rj gb!
 P7:Gc K mg "_law_moves" Rk mH_
 P8:Gc K mg "law" Oc [bc!]
 P9:mg "abs"=none
 Q0:mg "all"=none
 Q3:mg "bool"=none
 Q4:mg "enumerate"=none
 Q5:mg "int"=none
 Q6:mg "isinstance"=none
 Q7:mg "len"=none
 Q8:mg "list"=none
 Q9:mg "ord"=none
 R0:mg "range"=none
 R4:mg "reversed"=none
 R6:mg "sorted"=none
 R7:mg "str"=none
 R8:mg "tuple"=none
 R9:mg "zip"=none
 S0:∃tk,mg "HANDS"=some (.int 16 tk)
 S7:∃tk,mg "SIGNS"=some (.int 16 tk)
 S8:∃tk,mg "PLACES"=some (.int 4 tk)
 S9:∃tk,mg "LEFT_OUT"=some (.int 37 tk)
 T0:∃tk,mg "MOST_WAITING"=some (.int 8 tk)
 T1:mg "is_item"=some (.ref t.A0)
 T2:mg "is_sibling"=some (.ref t.A5)
 T3:mg "is_behind"=some (.ref t.A6)
 T4:mg "is_text"=some (.ref t.A7)
 T5:mg "is_sign_name"=some (.ref t.A8)
 T6:mg "is_from_one"=some (.ref t.A9)
 T7:mg "is_place"=some (.ref t.B0)
 T8:mg "is_whole"=some (.ref t.B1)
 T9:mg "is_name"=some (.ref t.B2)
 U0:Tu K t.B3
 U1:Tu K t.B4
 U2:Tu K t.B5
 U3:mg "HandsError"=some (.ref nS!)
 U4:mg "NotThere"=some (.ref jy_)
 U5:XS.AC K jy_
 U6:XS.Xy K nS!
 U7:W.subIn K (.ref jy_) (.ref nS!)=some true
 U8:Ed K t.B5 "following"
 U9:Ed K t.B5 "preceding"
 V0:Ed K t.B4 "parents"
 V1:Ed K t.B4 "rows"
 V2:Ed K t.B4 "texts"
 V3:Ed K t.B4 "numbers"
 V4:Ed K t.B4 "written"
 V5:Ed K t.B4 "hidden"
 V6:Ed K t.B3 "ours"
 V7:Ed K t.B3 "taken"
 V8:Ed K t.B3 "waiting"
 V9:Ed K t.B3 "outline"
 W3:∀X:Cx,X.prog=P->X.w=w->X.K=K->X.mg=mg->Ts X "PARTS" gg!
def dQ:∀(l:g!) (d v:D),kget e2_ d=some v
 |[],d,v=>by simp[Aq,kget]
 |(k,x)::r,d,v=>by
  unfold Aq;by_cases h:k=d
  .rw[HB h];simp[kget,h]
  .rw[GS h];simp[kget,h,dQ r d v]
def eH(h:d≠e):∀(l:g!) (v:D),kget e2_ e=kget l e
 |[],v=>by simp[Aq,kget,h]
 |(k,x)::r,v=>by
  unfold Aq;show"!f"
  .rw[a0_];subst hk;simp[kget,h]
  .rw[aB_];simp only[kget];rw[eH h r v]
def wB(h:d≠e):∀(l:g!),kget gH_ e=kget l e
 |[]=>rfl
 |(k,x)::r=>by
  unfold Ge;show"!f"
  .rw[a0_];subst hk;simp[kget,h]
  .rw[aB_];simp only[kget];rw[wB h r]
def a2y:∀{l:g!} {d:D},kget l d≠none↔d∈l.map b_
 |[],d=>by simp[kget]
 |(k,x)::r,d=>by
  unfold kget;show"!f"
  .subst hk;simp
  .rw[aB_,a2y];simp[GT hk]
def wA:∀{l:g!} {d:D},(ee!).Nodup->kget gH_ d=none
 |[],d,_=>rfl
 |(k,x)::r,d,h=>by
  rw[GY,HH]at h;unfold Ge;show"!f"
  .rw[a0_];subst hk;cases e:kget r k with
   |none=>rfl
   |some v=>exact absurd (a2y.mp kI!) h.1
  .rw[aB_];unfold kget;rw[aB_];exact wA h.2
def a2a:∀{l:g!} {d v:D} {e:D},e∈(e2_).map b_↔e=d\/e∈l.map b_
 |[],d,v,e=>by simp[Aq]
 |(k,x)::r,d,v,e=>by
  unfold Aq;show"!f"
  .rw[a0_];subst hk;simp
  .rw[aB_];simp only[GY,GR];rw[a2a];constructor<;>(rintro(h|h|h)<;>simp[h])
def kK:∀{l:g!} {d v:D},(ee!).Nodup->((e2_).map b_).Nodup
 |[],d,v,_=>by simp[Aq]
 |(k,x)::r,d,v,h=>by
  rw[GY,HH]at h;unfold Aq;show"!f"
  .rw[a0_];simp only[GY,HH];exact h
  .rw[aB_];simp only[GY,HH];refine⟨cI_,kK h.2⟩;obtain z|z:=a2a.mp z
   .exact hk z
   .exact h.1 z
def b9c:∀{l:g!} {d e:D},e∈(gH_).map b_->e∈l.map b_
 |[],d,e,h=>by simp[Ge]at h
 |(k,x)::r,d,e,h=>by
  unfold Ge at h;show"!f"
  .rw[a0_]at h;simp only[GY,GR];exact .inr h
  .rw[aB_]at h;simp only[GY,GR]at h ⊢;obtain h|h:=h
   .exact .inl h
   .exact .inr (b9c h)
def b9d:∀{l:g!} {d:D},(ee!).Nodup->((gH_).map b_).Nodup
 |[],d,_=>by simp[Ge]
 |(k,x)::r,d,h=>by
  rw[GY,HH]at h;unfold Ge;show"!f"
  .rw[a0_];exact h.2
  .rw[aB_];simp only[GY,HH];exact⟨λz=>h.1 (b9c z),b9d h.2⟩
def vT:∀{l:g!} {d v:D},kget l d≠none->(e2_).length=Y!
 |[],d,v,h=>by simp[kget]at h
 |(k,x)::r,d,v,h=>by
  unfold Aq;show"!f"
  .rw[a0_];rfl
  .rw[aB_];unfold kget at h;rw[aB_]at h;simp[vT h]
def wF:∀{l:g!} {d:D},kget l d≠none->(gH_).length+1=Y!
 |[],d,h=>by simp[kget]at h
 |(k,x)::r,d,h=>by
  unfold Ge;show"!f"
  .rw[a0_];rfl
  .rw[aB_];unfold kget at h;rw[aB_]at h;simp[wF h]
def Jd{α:Type}:List α->List (α×α)
 |a::b::r=>Z_::Jd (b::r)
 |_=>[]
def eP{α:Type}:∀(u:H_) (a b:α) (v:H_),Jd (u++a::b::v)=Jd (u++[a])++Z_::Jd (b::v)
 |[],a,b,v=>rfl
 |[x],a,b,v=>rfl
 |x::y::u,a,b,v=>by
  have:=eP (y::u) a b v;simp only[MY]at this ⊢;simp only[Jd,MY];rw[this]
def b1e{α:Type}:∀(a:α) (l:H_),(Jd (a::l)).map b_=(a::l).dropLast
 |a,[]=>rfl
 |a,b::r=>by simp only[Jd,GY,b1e b r,List.dropLast]
def b1d{α:Type}:∀(a:α) (l:H_),(Jd (a::l)).map s_=l
 |a,[]=>rfl
 |a,b::r=>by simp only[Jd,GY,b1d b r]
def Jk(xs:a_):List D:=.non::(xs++[.non])
def a3x(xs:a_):(e3!).map b_=.non::xs:=by unfold Jk;rw[b1e,show(D.non::(xs++[.non]))=(.non::xs)++[.non]from rfl,List.dropLast_concat]
def pY(xs:a_):(e3!).map s_=xs++[.non]:=b1d _ _
structure Pd(kf kp:g!)(xs:a_):Prop where
 f:∀a b,kget kf a=some b↔Z_∈Jd aK_
 p:∀a b,kget kp b=some a↔Z_∈Jd aK_
 nd:xs.Nodup
 no:D.non∉xs
 kf_nd:(kf.map b_).Nodup
 kp_nd:(kp.map b_).Nodup
 fl:kf.length=i!+1
 pl:kp.length=i!+1
def iL{α β:Type}:∀{l:List (α×β)} {a:α} {b c:β},(ee!).Nodup->Z_∈l->(a,c)∈l->b=c
 |[],_,_,_,_,h,_=>by cases h
 |(x,y)::r,a,b,c,nd,B,J=>by
  rw[GY,HH]at nd;obtain z|z:=GR.mp B<;>obtain w|w:=GR.mp J
  .cases z;cases w;rfl
  .cases z;exact absurd vt_ nd.1
  .cases w;exact absurd vu! nd.1
  .exact iL nd.2 z w
def Pd.hasF(h:jz!)(a:D):kget kf a≠none↔a=.non\/a∈xs:=by
 have e:=a3x xs;show"!K"
 .intro z;cases q:kget kf a with
  |none=>exact absurd q z
  |some b=>
   have:=GV (f:=b_) ((h.f a b).mp q);rw[e]at this;show"#5"
 .intro z;have:a∈(e3!).map b_:=by rw[e];simpa using z
  obtain⟨⟨x,b⟩,hm,rfl⟩:=HK.mp this;rw[(h.f x b).mpr hm];simp
def Pd.hasP(h:jz!)(b:D):kget kp b≠none↔b=.non\/b∈xs:=by
 have e:=pY xs;show"!K"
 .intro z;cases q:kget kp b with
  |none=>exact absurd q z
  |some a=>
   have:=GV (f:=s_) ((h.p a b).mp q);rw[e]at this;obtain w|w:=GZ.mp this
   .exact .inr w
   .exact .inl (by simpa using w)
 .intro z;have:b∈(e3!).map s_:=by rw[e];obtain rfl|z:=z<;>simp[*]
  obtain⟨⟨a,y⟩,hm,rfl⟩:=HK.mp this;rw[(h.p a y).mpr hm];simp
def b6d:Pd jz_ jz_ []:=by
 refine⟨e3_,e3_,F!,F!,F!,F!,rfl,rfl⟩<;>
 .simp only[Jk,Jd,kget,JO,GR,IJ,KL,KB];show"!K"
  .intro z;split at z
   .rename_i q;cases z;exact⟨by first|exact q.symm|rfl,by first|rfl|exact q.symm⟩
   .cases z
  .rintro⟨rfl,rfl⟩;simp
def Wk(n a:D):List D->List D
 |[]=>[]
 |x::r=>open Classical in if x=a then x::n::r else x::Wk n a r
def Oz(n a:D)(xs:a_):List D:=open Classical in if a∈xs then Wk n a xs else n::xs
def kO:∀{u v:a_},a∉u->Wk n a (u++a::v)=u++a::n::v
 |[],v,_=>by simp[Wk]
 |x::u,v,h=>by
  rw[GR,NV]at h;simp only[MY,Wk];rw[kX_,kO h.2]
def Pd.ins(h:jz!)(e:Jk xs=u++a0::b0::v)(e':Jk jc=u++a0::n::b0::v)(hn:n∉xs)(h0:n≠.non):
  Pd (Aq e4! n b0) (Aq e4_ b0 n) jc:=by
 have P:=eP u a0 b0 v;have P':Jd (Jk jc)=Jd jA!++(a0,n)::(n,b0)::Jd jA_:=by rw[e',eP];rfl
 rw[<-e]at P;have F:=a3x xs;have S:=pY xs;have N':(D.non::xs).Nodup:=HH.mpr vv!;have xg:(xs++bR!).Nodup:=by
  rw[IG];exact vv_
 have nf:∀a b,Z_∈Jd aK_->a≠n:=λa b hm z=>by
  have:=GV (f:=b_) hm;rw[F]at this;obtain w|w:=GR.mp this
  .exact h0 jC!
  .exact hn jC!
 have ns:∀a b,Z_∈Jd aK_->b≠n:=λa b hm z=>by
  have:=GV (f:=s_) hm;rw[S]at this;obtain w|w:=GZ.mp this
  .exact hn jC!
  .simp at w;exact h0 jC!
 have m0:(a0,b0)∈Jd aK_:=by rw[P];simp
 have xh:a0≠n:=nf _ _ m0;have rq:b0≠n:=ns _ _ m0;have dF:∀a b,Z_∈Jd jA!\/Z_∈Jd jA_->Z_∈Jd aK_/\a≠a0/\b≠b0:=λa b hm=>by
  have q:Z_∈Jd aK_:=by rw[P];obtain z|z:=hm<;>simp[z]
  have gj:=F▸N';have bf:=S▸xg;rw[P]at gj bf;simp only[HU,GY]at gj bf;rw[IG,HH]at gj bf;refine⟨q,cI_,cI_⟩
  .obtain w|w:=hm
   .exact gj.2.2 _ vt_ _ c_ z
   .exact gj.2.1.1 (z▸GV (f:=b_) w)
  .obtain w|w:=hm
   .exact bf.2.2 _ (GV (f:=s_) w) _ c_ z
   .have:=GV (f:=s_) w;rw[show(Z_).2=b0 from z]at this;exact bf.2.1.1 this
 have len:jc.length=i!+1:=by
  show"!Q"
 have f7:(jc++bR!).Nodup:=by
  rw[<-pY jc,P'];have bf:=S▸xg;rw[P]at bf;simp only[HU,GY]at bf ⊢;rw[IG,HH]at bf;rw[IG,HH,HH];refine⟨bf.1,⟨cI_,bf.2.1.1,bf.2.1.2⟩,vx_⟩
  .obtain z|z:=GR.mp z
   .exact rq z.symm
   .obtain⟨⟨c,d⟩,hm,rfl⟩:=HK.mp z;exact ns c d vy! rfl
  .obtain rfl|Y:=GR.mp Y
   .obtain⟨⟨c,d⟩,hm,rfl⟩:=HK.mp ha;exact ns c d vy!
   .exact vy_
 rw[IG]at f7;refine⟨e3_,e3_,f7.1,vz!,kK (kK h.kf_nd),kK (kK h.kp_nd),?_,?_⟩
 .rw[P'];show"!R";by_cases q1:n=a
  .show"!~"
   .show"!d";simp
   .rintro(z|⟨z,_⟩|⟨_,z⟩|z)
    .exact absurd rfl (nf _ _ (de_).1)
    .exact absurd z.symm xh
    .rw[z]
    .exact absurd rfl (nf _ _ (df!).1)
  .rw[eH q1];by_cases q2:a0=a
   .subst q2;rw[dQ];show"!K"
    .show"!d";simp
    .rintro(z|⟨_,z⟩|⟨z,_⟩|z)
     .exact absurd rfl (de_).2.1
     .rw[z]
     .exact cb!
     .exact absurd rfl (df!).2.1
   .rw[eH q2,h.f,P];show"!R";show"!K"
    .show"#?"
     .exact bz_
     .exact gJ!
     .exact jD_
    .rintro(z|⟨z,_⟩|⟨z,_⟩|z)
     .exact bz_
     .exact gJ!
     .exact cb!
     .exact e5!
 .rw[P'];show"!R";by_cases q1:b0=b
  .show"!~"
   .show"!d";simp
   .rintro(z|⟨_,z⟩|⟨z,_⟩|z)
    .exact absurd rfl (de_).2.2
    .exact absurd z rq
    .rw[z]
    .exact absurd rfl (df!).2.2
  .rw[eH q1];by_cases q2:n=b
   .subst q2;rw[dQ];show"!K"
    .show"!d";simp
    .rintro(z|⟨z,_⟩|⟨_,z⟩|z)
     .exact absurd rfl (ns _ _ (de_).1)
     .rw[z]
     .exact absurd z.symm rq
     .exact absurd rfl (ns _ _ (df!).1)
   .rw[eH q2,h.p,P];show"!R";show"!K"
    .show"#@"
     .exact bz_
     .exact cb!
     .exact jD_
    .rintro(z|⟨_,z⟩|⟨_,z⟩|z)
     .exact bz_
     .exact gJ!
     .exact cb!
     .exact e5!
 .have f0:kget kf a0≠none:=by rw[(nT!).mpr m0];simp
  have f1:n∉(e4!).map b_:=λz=>by
   obtain z|z:=a2a.mp z
   .exact xh z.symm
   .obtain w|w:=(h.hasF n).mp (a2y.mpr z)
    .exact h0 w
    .exact hn w
  rw[iK f1,HE,vT f0,h.fl,len];rfl
 .have f1:n∉kp.map b_:=λz=>by
   obtain w|w:=(h.hasP n).mp (a2y.mpr z)
   .exact h0 w
   .exact hn w
  have f0:kget e4_ b0≠none:=by rw[eH (GT rq),(nT_).mpr m0];simp
  rw[vT f0,iK f1,HE,h.pl,len];rfl
def Pd.out(h:jz!)(e:Jk xs=u++a0::n::b0::v)(e':Jk jc=u++a0::b0::v)(h0:n≠.non):
  Pd vA_ vB! jc:=by
 have P':=eP u a0 b0 v;have P:Jd aK_=Jd jA!++(a0,n)::(n,b0)::Jd jA_:=by rw[e,eP];rfl
 rw[<-e']at P';have F:=a3x xs;have S:=pY xs;have N':((e3!).map b_).Nodup:=by rw[F];exact HH.mpr vv!
 have xg:((e3!).map s_).Nodup:=by
  rw[S,IG];exact vv_
 have gj:=N';have bf:=xg;rw[P]at gj bf;simp only[HU,GY]at gj bf;rw[IG,HH,HH]at gj bf;have xh:a0≠n:=λz=>gj.2.1.1 ex!;have rq:b0≠n:=λz=>bf.2.1.1 ex!;have m1:(a0,n)∈Jd aK_:=by rw[P];simp
 have m2:(n,b0)∈Jd aK_:=by rw[P];simp
 have len:i!=jc.length+1:=by
  show"!Q"
 have dF:∀a b,Z_∈Jd jA!\/Z_∈Jd jA_->Z_∈Jd aK_/\(a≠a0/\a≠n)/\(b≠b0/\b≠n):=λa b hm=>by
  have q:Z_∈Jd aK_:=by rw[P];obtain z|z:=hm<;>simp[z]
  have g1:a≠a0/\a≠n:=by
   obtain w|w:=hm
   .have:=GV (f:=b_) w;exact⟨vB_,vB_⟩
   .have:=GV (f:=b_) w;exact⟨λz=>gj.2.1.1 (GP _ jF!),λz=>gj.2.1.2.1 jF!⟩
  have g2:b≠b0/\b≠n:=by
   obtain w|w:=hm
   .have:=GV (f:=s_) w;exact⟨vC_,vC_⟩
   .have:=GV (f:=s_) w;exact⟨λz=>bf.2.1.2.1 jF!,λz=>bf.2.1.1 (GP _ jF!)⟩
  exact⟨q,g1,g2⟩
 have f7:(jc++bR!).Nodup:=by
  rw[<-pY jc,P'];simp only[HU,GY];rw[IG,HH];exact⟨bf.1,bf.2.1.2,λa ha b Y=>bf.2.2 a ha b (GP _ Y)⟩
 rw[IG]at f7;have hf0:kget kf a0≠none:=by rw[(nT!).mpr m1];simp
 have dw:kget kp b0≠none:=by rw[(nT_).mpr m2];simp
 refine⟨e3_,e3_,f7.1,vz!,kK (b9d h.kf_nd),kK (b9d h.kp_nd),?_,?_⟩
 .rw[P'];show"!R";by_cases q1:a0=a
  .show"!~"
   .show"!d";simp
   .show"#@"
    .exact absurd rfl (de_).2.1.1
    .rw[z]
    .exact absurd rfl (df!).2.1.1
  .rw[eH q1];by_cases q2:n=a
   .subst q2;rw[wA h.kf_nd];show"!K"
    .show"!d"
    .show"#?"
     .exact absurd rfl (de_).2.1.2
     .exact cb!
     .exact absurd rfl (df!).2.1.2
   .rw[wB q2,h.f,P];show"!R";show"!K"
    .rintro(z|⟨z,_⟩|⟨z,_⟩|z)
     .exact bz_
     .exact cb!
     .exact gJ!
     .exact e5!
    .show"#?"
     .exact bz_
     .exact cb!
     .exact jD_
 .rw[P'];show"!R";by_cases q1:b0=b
  .show"!~"
   .show"!d";simp
   .show"#?"
    .exact absurd rfl (de_).2.2.1
    .rw[z]
    .exact absurd rfl (df!).2.2.1
  .rw[eH q1];by_cases q2:n=b
   .subst q2;rw[wA h.kp_nd];show"!K"
    .show"!d"
    .show"#@"
     .exact absurd rfl (de_).2.2.2
     .exact cb!
     .exact absurd rfl (df!).2.2.2
   .rw[wB q2,h.p,P];show"!R";show"!K"
    .rintro(z|⟨_,z⟩|⟨_,z⟩|z)
     .exact bz_
     .exact gJ!
     .exact cb!
     .exact e5!
    .show"#@"
     .exact bz_
     .exact cb!
     .exact jD_
 .have:=wF (l:=kf) (d:=n) (by rw[(nT!).mpr m2];simp);rw[vT (by rw[wB (GT xh)];exact hf0)];have:=h.fl;omega
 .have:=wF (l:=kp) (d:=n) (by rw[(nT_).mpr m1];simp);rw[vT (by rw[wB (GT rq)];exact dw)];have:=h.pl;omega
def d1f:(Str.ofString "following"==Str.ofString "preceding")=false:=by decide+kernel
def d0j:(Str.ofString "preceding"==Str.ofString "following")=false:=by decide+kernel
def zR:(Str.ofString "following"==Str.ofString "following")=true:=by decide+kernel
def lkP:List.lookup (Str.ofString "preceding") [(Str.ofString "following",a),(Str.ofString "preceding",b)]=some b:=by simp[IQ,d0j]
structure Ej(t:Ay)(M:Mh)(r f p:xK!)(xs:a_):Prop where
 ob:M r=some (.obj t.B5 [("following",.fn f),("preceding",.fn p)])
 dc:∃kf ef kp ep,M f=some (.dct kf ef)/\M p=some (.dct kp ep)/\Pd kf kp xs
 ne:f≠p
def zN:Ci d=true↔d=.non:=by cases d<;>simp[Ci]
def jR(hd:d≠.non):Ci d=false:=by cases q:Ci d with|false=>rfl|true=>exact absurd (zN.mp q) hd
def a6u{t:Ay}{M:Mh}{R:u_}(h:dV!)(hk:bm!)(hR:R (.bl (open Classical in decide (d∈xs))) M):Hb t [.fn r,d] M R:=by
 obtain⟨kf,ef,kp,ep,hf,hp,K⟩:=h.dc;refine o_;by_cases hd:d=.non
 .subst hd;have:(D.non∈xs)=False:=by simp[K.no]
  simp only[this,PH]at hR;simpa[Kz,Bn,Mc,wT,wl,f2,Aa,fC,Ap,Ci]using hR
 .have e3:(kget kf d).isSome=(open Classical in decide (d∈xs)):=by
   have:=K.hasF d;cases q:kget kf d with
   |none=>rw[q]at this;simp[hd]at this;simp[this]
   |some v=>rw[q]at this;simp[hd]at this;simp[this]
  rw[<-e3]at hR;simpa[Kz,Bn,Mc,wT,wl,f2,Aa,fC,Ap,jR hd,w2,Aw,Ic,h.ob,El,Hl,hf,hk,zR]using hR
def mH{α:Type}{a:α}:∀{l:H_},a∈l->∃u v,l=u++a::v/\a∉u
 |x::r,h=>open Classical in by
  by_cases e:a=x
  .exact⟨[],r,by rw[e];rfl,F!⟩
  .obtain⟨u,v,rfl,hu⟩:=mH ((GR.mp h).resolve_left e);exact⟨x::u,v,rfl,by simp[e,hu]⟩
def b6n(h0:D.non∉xs):∃u b0 v,Jk xs=u++(open Classical in if o∈xs then o else .non)::b0::v/\Jk (Oz n o xs)=u++(open Classical in if o∈xs then o else .non)::n::b0::v:=by
 by_cases h:o∈xs
 .obtain⟨u,v,rfl,hu⟩:=mH h;obtain⟨b0,v',e⟩:∃b0 v',v++[D.non]=b0::v':=by cases v with|nil=>exact bA!|cons a r=>exact bA!
  refine⟨.non::u,b0,v',?_,?_⟩
  .rw[HB h];simp[Jk,e]
  .unfold Oz;rw[HB h,HB h,kO hu];simp[Jk,e]
 .obtain⟨b0,v',e⟩:∃b0 v',xs++[D.non]=b0::v':=by cases xs with|nil=>exact bA!|cons a r=>exact bA!
  refine⟨[],b0,v',?_,?_⟩
  .rw[GS h];simp[Jk,e]
  .unfold Oz;rw[GS h,GS h];simp[Jk,e]
def jA{t:Ay}{M:Mh}{xs:a_}{R:u_}(h:dV!)(hn:Dk n=some kn)(ho:Dk o=some ko)(n0:n≠.non)(nx:n∉xs)(hl:i!<5000)(hkx:nU_)
  (hR:∀M',Ej t M' r f p (Oz n o xs)->vM!->R .non M'):Cr t [.fn r,n,o] M R:=by
 obtain⟨kf,ef,kp,ep,hf,hp,K⟩:=h.dc;have ph:r≠f:=λz=>by have:=h.ob;rw[z,hf]at this;cases this
 have jy:r≠p:=λz=>by have:=h.ob;rw[z,hp]at this;cases this
 obtain⟨u,b0,v,c1,c2⟩:=b6n (n:=n) (o:=o) K.no;generalize ea:(open Classical in if o∈xs then o else D.non)=a0 at c1 c2;have m0:(a0,b0)∈Jd aK_:=by rw[c1,eP];simp
 have ls:kget kf a0=some b0:=(gM!).mpr m0;have K':=K.ins c1 c2 nx n0;have ka:∃k,Dk a0=some k:=by
  have:=(K.hasF a0).mp vN!;obtain rfl|z:=this
  .exact I!
  .exact jH!
 have kb:∃k,Dk b0=some k:=by
  have:=(K.hasP b0).mp (by rw[(nV!).mpr m0];simp);obtain rfl|z:=this
  .exact I!
  .exact jH!
 obtain⟨ka,QZ⟩:=ka;obtain⟨kb,lm⟩:=kb;have l1:kf.length<big:=by have:=K.fl;unfold big;omega
 have l2:kp.length<big:=by have:=K.pl;unfold big;omega
 have l3:(e4!).length<big:=KI dW! (by have:=K.fl;unfold big;omega);have l4:(e4_).length<big:=KI dW! (by have:=K.pl;unfold big;omega);refine o_;simp only[Jc,Ah,An,AD,wT,Bh,wl,Ac,Ag,Aa];simp[Dg,h.ob,d1f,zR];refine⟨⟨f1_,f1_⟩,?_⟩;refine a6u h ho ?_;have key:∀(b:Bool),b=(open Classical in decide (o∈xs))->((b=true/\o=a0)\/(b=false/\D.non=a0)):=λb Y=>by
  subst Y;rw[<-ea];by_cases z:o∈xs<;>simp[z]
 generalize Y:(open Classical in decide (o∈xs))=b;have fin:R .non (Az (Az (Az (Az M f (.dct e4! (Fx kf a0 ef))) p (.dct e4_ (Fx kp n ep))) f (.dct (Aq e4! n b0) (Fx e4! n (Fx kf a0 ef)))) p (.dct (Aq e4_ b0 n) (Fx e4_ b0 (Fx kp n ep)))):=by
  refine hR _ vO! λb pe u8=>?_
  .rw[jI!,jI_,jI!,jI_];exact h.ob
  .rw[jJ!,jJ_,jJ!,jJ_]
 obtain⟨rfl,rfl⟩|⟨rfl,rfl⟩:=key b Y.symm<;>
 simpa[Ah,An,w2,wl,Aw,Cd,El,Ic,Aa,fC,f2,h.ob,zR,lkP,Co,hf,hp,QZ,lm,hn,ls,Ki,l1,l2,l3,l4,mup_ne,mup_same,ph,jy,h.ne,GT h.ne]using fin
def a4j{t:Ay}{M:Mh}{xs:a_}{R:u_}(h:dV!)(hx:xs=u++n::v)(hn:Dk n=some kn)(hl:i!<5000)(hkx:nU_)
  (hR:∀M',Ej t M' r f p bh!->vM!->R .non M'):Ia t [.fn r,n] M R:=by
 obtain⟨kf,ef,kp,ep,hf,hp,K⟩:=h.dc;have ph:r≠f:=λz=>by have:=h.ob;rw[z,hf]at this;cases this
 have jy:r≠p:=λz=>by have:=h.ob;rw[z,hp]at this;cases this
 have n0:n≠.non:=λz=>K.no (by rw[hx,<-z];simp);obtain⟨b0,v',ev⟩:∃b0 v',v++[D.non]=b0::v':=by cases v with|nil=>exact bA!|cons a r=>exact bA!
 obtain⟨u',a0,eu⟩:∃u' a0,D.non::u=u'++[a0]:=⟨(jK!).dropLast,(jK!).getLast c_,(List.dropLast_concat_getLast c_).symm⟩;have c1:Jk xs=u'++a0::n::b0::v':=by
  rw[hx];show D.non::vP!=_;rw[show D.non::vP!=jK!++n::(v++bR!)by simp,eu,ev];simp
 have c2:Jk bh!=u'++a0::b0::v':=by
  show D.non::(u++v++bR!)=_;rw[show D.non::(u++v++bR!)=jK!++(v++bR!)by simp,eu,ev];simp
 have m1:(a0,n)∈Jd aK_:=by rw[c1,eP];simp
 have m2:(n,b0)∈Jd aK_:=by rw[c1,show u'++a0::n::b0::v'=(u'++[a0])++n::b0::v' by simp,eP];simp
 have RA:kget kp n=some a0:=(nV!).mpr m1;have ls:kget kf n=some b0:=(gM!).mpr m2;have K':=K.out c1 c2 n0;have ka:∃k,Dk a0=some k:=by
  have:=(K.hasF a0).mp (by rw[(gM!).mpr m1];simp);obtain rfl|z:=this
  .exact I!
  .exact jH!
 have kb:∃k,Dk b0=some k:=by
  have:=(K.hasP b0).mp (by rw[(nV!).mpr m2];simp);obtain rfl|z:=this
  .exact I!
  .exact jH!
 obtain⟨ka,QZ⟩:=ka;obtain⟨kb,lm⟩:=kb;have l1:(jE!).length<big:=by have:=wF (l:=kf) (d:=n) vN!;have:=K.fl;unfold big;omega
 have l2:(jE_).length<big:=by have:=wF (l:=kp) (d:=n) (by rw[RA];simp);have:=K.pl;unfold big;omega
 refine o_;have fin:R .non (Az (Az (Az (Az M p (.dct jE_ a8!)) f (.dct jE! (ef+1))) f (.dct vA_ (Fx jE! a0 (ef+1)))) p (.dct vB! (Fx jE_ b0 a8!))):=by
  refine hR _ vO! λb pe u8=>?_
  .rw[jI!,jI_,jI_,jI!];exact h.ob
  .rw[jJ!,jJ_,jJ_,jJ!]
 simpa[Ky,Ah,An,w2,wl,Aw,Cd,Xb,Dl,El,Ic,Aa,fC,f2,h.ob,zR,lkP,hf,hp,QZ,lm,hn,ls,RA,Ki,l1,l2,mup_ne,mup_same,ph,jy,h.ne,GT h.ne]using fin
def b4n{t:Ay}{M:Mh}{xs:a_}{R:u_}(h:dV!)(hl:i!<5000)(hkx:nU_)(hR:R N! M):Jq t [.fn r] M R:=by
 obtain⟨kf,ef,kp,ep,hf,hp,K⟩:=h.dc;have step:∀(done rest:a_) (pi:D) (tl:a_),xs=done++rest->rest++bR!=pi::tl->∀R',R' (.nx [some bi!,some N!,some .non]) M->
   Ch sI! sI_ (rest.length+1) [some bi!,some (.lst done),some pi] M R':=by
  intro done rest
  induction rest generalizing done with
  |nil=>
   intro pi tl e1 e2 R' g9;simp at e1 e2;obtain⟨rfl,_⟩:=e2;subst e1;simpa[Ch,Dh,fT,f2,Aa,fC,Ap,Ci]using g9
  |cons y rest ih=>
   intro pi tl e1 e2 R' g9;obtain⟨rfl,rfl⟩:=e2;have hy:y∈xs:=by rw[e1];simp
   have y0:y≠.non:=λz=>K.no (z▸hy);obtain⟨k,ek⟩:=hkx y hy;obtain⟨nx,tl,ev⟩:∃b0 v',rest++[D.non]=b0::v':=by cases rest with|nil=>exact bA!|cons a r=>exact bA!
   have ls:kget kf y=some nx:=(gM!).mpr (by
    rw[e1,Jk,show D.non::(done++y::rest++bR!)=(D.non::done)++y::(rest++bR!)by simp,ev,eP];simp)
   have Y:done.length<big:=by have:=congrArg List.length e1;simp at this;unfold big;omega
   have:=ih (done++[y]) nx tl (by simp[e1]) ev R' g9;rw[HA,Ch];simpa[Dh,fT,f2,Aa,fC,Ap,jR y0,Ah,Rq,El,Ku,Y,An,w2,wl,Aw,Ic,h.ob,zR,Co,hf,ek,ls]using this
 obtain⟨pi,tl,ev⟩:∃b0 v',xs++[D.non]=b0::v':=by cases xs with|nil=>exact bA!|cons a r=>exact bA!
 have ls:kget kf .non=some pi:=(gM!).mpr (by rw[Jk,ev];simp[Jd]);refine o_;simp only[Ni,Ah,Rq];simp[El,Ir,Af,An,w2,wl,Aw,Ic,Aa,fC,h.ob,zR,Co,hf,ls,Dk,Fj];refine⟨i!+1,step [] xs pi tl rfl ev _ ?_⟩;simpa[Bn,wl,Aa]using hR
abbrev root:D:=.str "root"
abbrev Bi:D:=.str "bin"
def b0z:root≠Bi:=by intro z;simp only[D.str.injEq]at z;exact absurd z v_
def He(x:D):Prop:=∃a b,x=.tup vR!
def Pc(x:D):Prop:=∃a b c,x=.tup vR_
def He.key(h:He x):∃k,Dk x=some k:=by obtain⟨a,b,rfl⟩:=h;exact I!
def Pc.key(h:Pc x):∃k,Dk x=some k:=by obtain⟨a,b,c,rfl⟩:=h;exact I!
def He.nn(h:He x):x≠.non/\x≠root/\x≠Bi:=by obtain⟨a,b,rfl⟩:=h;refine⟨?_,?_,?_⟩<;>(intro z;cases z)
def Pc.nn(h:Pc x):x≠.non:=by obtain⟨a,b,c,rfl⟩:=h;intro z;cases z
structure OW where
 rows:List ax_
 its:List D
 txt:D->List e7!
 num:D->List D
open Classical in
nonrec def chl(rows:g!)(x:D):List D:=(rows.filter λq=>q.2=x).map b_
open Classical in
nonrec def wo(rows:g!)(i:D):List ax_:=rows.filter λq=>q.1≠i
inductive Wn(rows:g!)(i:D):D->Prop
 |here:Wn rows i i
 |up {x p:D}:a3_∈rows->Wn rows i p->Wn rows i x
def Qt(rows:g!)(i p s:D)(rows':g!):Prop:=∃u v,wo rows i=u++v/\rows'=u++bA_::v/\((s∉chl dX! p/\chl u p=[])\/∃u',u=u'++[dh_])
def Ez(W:OW)(x:D):Prop:=x∈W.its\/x=root\/x=Bi
structure Bu(W:OW):Prop where
 nd:nX_
 nm:∀x∈W.its,He x
 rnd:(W.rows.map b_).Nodup
 ri:∀x,x∈W.rows.map b_↔x∈W.its
 rp:∀i p,bA_∈W.rows->Ez W p
 rk:∃rk:D->Nat,∀i p,bA_∈W.rows->rk p<rk i
 snd:∀x∈W.its,((bS!).map b_).Nodup
 sg:∀x∈W.its,∀q∈W.txt x,Pc q.1
 su:∀x∈W.its,∀y∈W.its,∀q∈W.txt x,∀q'∈W.txt y,q.1=q'.1->x=y
 nl:∀x∈W.its,(W.num x).length=4
section
open Classical
def kG{q:D×D}:q∈wo rows i↔q∈rows/\q.1≠i:=by unfold wo;rw[MB];simp
def cN:c∈chl rows x↔di!∈rows:=by
 unfold chl;rw[HK];show"!K"
 .rintro⟨⟨a,b⟩,h,rfl⟩;rw[MB]at h;have:=h.2;simp at this;rw[<-this];exact h.1
 .intro h;exact⟨di!,MB.mpr ⟨h,F!⟩,rfl⟩
def eF:chl bh! x=chl u x++chl v x:=by unfold chl;rw[QG,HU]
def jF:chl (bA_::v) p=i::chl v p:=by unfold chl;rw[JI c_];rfl
def sV(h:p≠x):chl (bA_::v) x=chl v x:=by unfold chl;rw[JJ kb_]
def a3y{rows:g!}:(jM_).Sublist ky_:=by unfold chl;exact(OA).map _
def jU{rows:g!}:((dX!).map b_).Sublist ky_:=by unfold wo;exact(OA).map _
def Qt.chl_same{rows:g!}(h:gN!)(nd:cH!):chl rows' p=Oz i s (chl dX! p):=by
 obtain⟨u,v,e,rfl,hc⟩:=h;rw[eF,jF];have bf:((bh!).map b_).Nodup:=by rw[<-e];exact nd.sublist jU
 obtain⟨B,J⟩|⟨u',rfl⟩:=hc
 .unfold Oz;rw[GS B,e,eF,J];rfl
 .rw[e];have hs:s∈chl vS! p:=cN.mpr c_;unfold Oz;have J:chl (u'++[dh_]) p=chl u' p++[s]:=by rw[eF,jF];rfl
  have h3:chl vS! p=chl u' p++s::chl v p:=by rw[eF,J];simp
  rw[HB hs,J,h3];have hu:s∉chl u' p:=λz=>by
   have:=cN.mp z;simp only[HU,GY,MC,IY]at bf;rw[IG]at bf;exact bf.2.2 _ vS_ s c_ rfl
  rw[kO hu];simp
def Qt.chl_ne(h:gN!)(hx:p≠x):chl rows' x=chl dX! x:=by obtain⟨u,v,e,rfl,hc⟩:=h;rw[eF,sV hx,e,eF]
def Qt.mem(h:gN!){q:D×D}:q∈rows'↔q=bA_\/q∈wo rows i:=by
 obtain⟨u,v,e,rfl,hc⟩:=h;rw[e];simp only[GZ,GR];show"!K"
 .rintro(z|z|z)<;>simp[z]
 .rintro(z|z|z)<;>simp[z]
def Qt.nd{rows rows':g!}(h:gN!)(nd:cH!):(rows'.map b_).Nodup:=by
 obtain⟨u,v,e,rfl,hc⟩:=h;have bf:((bh!).map b_).Nodup:=by rw[<-e];exact nd.sublist jU
 have ni:i∉(bh!).map b_:=λz=>by
  obtain⟨q,hq,hi⟩:=HK.mp z;rw[<-e]at hq;exact(nY_).2 hi
 simp only[HU,GY]at bf ni ⊢;rw[IG]at bf ⊢;rw[GZ,NV]at ni;refine⟨bf.1,HH.mpr ⟨ni.2,bf.2.1⟩,vx_⟩;obtain rfl|Y:=GR.mp Y
 .exact λz=>ni.1 jB_
 .exact vy_
def zY(h:(i,x)∉rows):chl dX! x=chl rows x:=by unfold chl wo;rw[QF];congr 1;apply NO;intro q hq;simp only[ne_eq,decide_not,Bool.and_eq_left_iff_imp,IF,NU,KC,NG];rintro rfl z;exact h vT!
def b0d{rows:g!}(nd:cH!)(h:(i,x)∈rows):∃u v,chl rows x=u++i::v/\chl dX! x=u++v:=by
 obtain⟨a,b,e,_⟩:=mH h;have n1:i∉(a++b).map b_:=by
  rw[e]at nd;simp only[HU,GY]at nd ⊢;rw[IG,HH]at nd;rw[GZ,NV];exact⟨λz=>nd.2.2 _ z i c_ rfl,nd.2.1.1⟩
 have e2:wo rows i=a++b:=by
  unfold wo;rw[e,QG,JJ c_];have keep:∀l:List ax_,i∉l.map b_->l.filter (λq=>decide (q.1≠i))=l:=λl hl=>KA.mpr λq hq=>by
   show"!t";exact λz=>hl jO!
  rw[HU,GZ,NV]at n1;rw[keep a n1.1,keep b n1.2]
 refine⟨chl a x,chl b x,?_,?_⟩
 .rw[e,eF,jF]
 .rw[e2,eF]
def uD{rows:g!}(nd:cH!)(h:a3_∈rows)(hx:x≠i):Wn rows i x↔Wn rows i p:=by
 show"!K"
 .intro z;cases z with
  |here=>exact absurd rfl hx
  |up J z=>rw[iL nd h J];exact z
 .exact λz=>.up h z
def b5i(h:∀p,a3_∉rows)(hx:x≠i):¬Wn rows i x:=λz=>by
 cases z with
 |here=>exact hx rfl
 |up J _=>exact h _ J
def Qt.winv{W:OW}(h:Qt W.rows i p s rows')(w:Bu W)(hi:gN_)(hp:Ez W p)(hw:¬Wn W.rows i p):Bu {W with rows:=rows'}:=by
 refine⟨w.nd,w.nm,h.nd w.rnd,jO_,jP!,?_,w.snd,w.sg,w.su,w.nl⟩
 .show x∈rows'.map b_↔x∈W.its;rw[<-w.ri x];show"!K"
  .intro z;obtain⟨q,hq,rfl⟩:=HK.mp z;obtain rfl|hq:=h.mem.mp hq
   .exact(w.ri i).mpr hi
   .exact GV (nY_).1
  .intro z;by_cases hx:x=i
   .subst hx;exact HK.mpr vV!
   .obtain⟨q,hq,rfl⟩:=HK.mp z;exact GV (h.mem.mpr (.inr (kG.mpr ⟨hq,hx⟩)))
 .show Ez W b;obtain z|z:=h.mem.mp hm
  .cases z;exact hp
  .exact w.rp _ _ (kG.mp z).1
 .obtain⟨rk,ic⟩:=w.rk;refine⟨λx=>if Wn W.rows i x then rk x+rk p+1 else rk x,jP!⟩;obtain z|z:=h.mem.mp hm
  .cases z;dsimp only;rw[GS hw,HB .here];omega
  .obtain⟨z1,z2⟩:=kG.mp z;have:=ic _ _ z1;have q:=uD w.rnd z1 z2;dsimp only;by_cases c:Wn W.rows i a
   .rw[HB c,HB (q.mp c)];omega
   .rw[GS c,GS (λz=>c (q.mpr z))];show"#;"
def Hn(W:OW)(n:D)(rows':g!):OW:=⟨rows',W.its++[n],λx=>if x=n then[]else W.txt x,λx=>if x=n then[.int 0,.int 0,.int 0,.int 0]else W.num x⟩
def Qt.winv_put{W:OW}(h:Qt W.rows n p s rows')(w:Bu W)(hn:n0_)(ht:He n)(hp:Ez W p):Bu bS_:=by
 have nn:n∉W.rows.map b_:=λz=>hn ((w.ri n).mp z);have jz:wo W.rows n=W.rows:=by
  refine KA.mpr λq hq=>?_;show"!t";exact λz=>nn jO!
 have pn:p≠n:=λz=>by
  obtain q|q|q:=hp
  .exact hn (z▸q)
  .exact ht.nn.2.1 (z▸q)
  .exact ht.nn.2.2 (z▸q)
 have im:∀x,x∈(bS_).its↔x∈W.its\/x=n:=λx=>by simp[Hn]
 refine⟨?_,aS_,h.nd w.rnd,jO_,jP!,?_,aS_,aS_,jQ!,aS_⟩
 .show(W.its++[n]).Nodup;rw[IG];exact⟨w.nd,F!,λa ha b Y=>by simp at Y;subst Y;exact λz=>hn jB_⟩
 .obtain z|rfl:=(e7_).mp hx
  .exact w.nm x z
  .exact ht
 .rw[im,<-w.ri x];show"!K"
  .intro z;obtain⟨q,hq,rfl⟩:=HK.mp z;obtain rfl|hq:=h.mem.mp hq
   .exact .inr rfl
   .rw[jz]at hq;exact .inl (GV hq)
  .rintro(z|rfl)
   .obtain⟨q,hq,rfl⟩:=HK.mp z;exact GV (h.mem.mpr (.inr (by rw[jz];exact hq)))
   .exact HK.mpr vV!
 .have up:∀y,Ez W y->Ez bS_ y:=λy hy=>by
   obtain q|q:=hy
   .exact .inl ((im y).mpr (.inl q))
   .exact .inr q
  obtain z|z:=h.mem.mp hm
  .cases z;exact up _ hp
  .rw[jz]at z;exact up _ (w.rp _ _ z)
 .obtain⟨rk,ic⟩:=w.rk;refine⟨λx=>if x=n then rk p+1 else rk x,jP!⟩;obtain z|z:=h.mem.mp hm
  .cases z;dsimp only;rw[GS pn,m_];omega
  .rw[jz]at z;have ha:a≠n:=λq=>nn (q▸GV (f:=b_) z);have Y:b≠n:=λq=>by
    obtain y|y|y:=w.rp _ _ z
    .exact hn (q▸y)
    .exact ht.nn.2.1 (q▸y)
    .exact ht.nn.2.2 (q▸y)
   dsimp only;rw[GS ha,GS Y];exact ic _ _ z
 .show((n1_).map b_).Nodup;split
  .simp
  .rename_i q;exact w.snd x n2!
 .show∀q∈n1_,Pc q.1;split
  .intro q hq;cases hq
  .rename_i q;exact w.sg x n2!
 .show∀q∈n1_,∀q'∈(if y=n then[]else W.txt y),q.1=q'.1->x=y;split
  .intro q hq;cases hq
  .rename_i q1;split
   .intro q hq q' bg;cases bg
   .rename_i q2;exact w.su x ((n2_).resolve_right q1) y (((im y).mp hy).resolve_right q2)
 .show(if x=n then[.int 0,.int 0,.int 0,.int 0]else W.num x).length=4;split
  .rfl
  .rename_i q;exact w.nl x n2!
def Wj(b:D)(nw:ak!):List e7!->List e7!
 |[]=>[]
 |x::r=>if x.1=b then x::(nw++r)else x::Wj b nw r
nonrec def wrT(b:D)(nw l:ak!):List e7!:=if b∈l.map b_ then Wj b nw l else nw++l
def wJ{u:ak!}{q:e8_}(hq:q.1=b):b∉u.map b_->Wj b nw (u++q::v)=u++q::(nw++v):=by
 induction u with
 |nil=>intro _;simp[Wj,hq]
 |cons x u ih=>
  intro h;rw[GY,GR,NV]at h;simp only[MY,Wj];rw[kX_,ih h.2]
def qE(b:D)(nw l:ak!):∃u v,l=u++v/\wrT b nw l=u++nw++v/\((u=[]/\b∉l.map b_)\/∃u' q,u=u'++[q]/\q.1=b/\b∉u'.map b_):=by
 by_cases h:b∈l.map b_
 .obtain⟨u,v,e,hu⟩:=mH h;obtain⟨u',r,e1,e2,e3⟩:=List.map_eq_append_iff.mp e;obtain⟨q,v',e4,e5,e6⟩:=List.map_eq_cons_iff.mp e3;subst e4;refine⟨u'++[q],v',by simp[e1],?_,.inr ⟨u',q,rfl,e5,by rw[e2];exact hu⟩⟩;unfold wrT;rw[HB h,e1,wJ e5 (by rw[e2];exact hu)];simp
 .exact⟨[],l,rfl,by unfold wrT;rw[GS h];rfl,.inl cc_⟩
nonrec def setT(W:OW)(a:D)(l:ak!):OW:={W with txt:=λx=>if x=a then l else W.txt x}
def qH{W:OW}{l:ak!}(w:Bu W)(ha:dY!)(B:(ee!).Nodup)(J:∀q∈l,Pc q.1)(h3:∀q∈l,∀y∈W.its,∀q'∈W.txt y,q.1=q'.1->y=a):Bu n3_:=by
 refine⟨w.nd,w.nm,w.rnd,w.ri,w.rp,w.rk,aS_,aS_,jQ!,w.nl⟩
 .show((n4!).map b_).Nodup;split
  .exact B
  .exact w.snd x hx
 .show∀q∈n4!,Pc q.1;split
  .exact J
  .exact w.sg x hx
 .show∀q∈n4!,∀q'∈(if y=a then l else W.txt y),q.1=q'.1->x=y;split
  .rename_i e1;subst e1;split
   .rename_i e2;intro _ _ _ _ _;exact e2.symm
   .intro q hq q' bg e;exact(h3 q hq y hy q' bg e).symm
  .split
   .rename_i e2;subst e2;intro q hq q' bg e;exact h3 q' bg x hx q hq e.symm
   .exact w.su x hx y hy
def Sw(W:OW)(a:D)(l:a_):OW:={W with num:=λx=>if x=a then l else W.num x}
def b3f{l:a_}(w:Bu W)(hl:Y!=4):Bu (Sw W a l):=by
 refine⟨w.nd,w.nm,w.rnd,w.ri,w.rp,w.rk,w.snd,w.sg,w.su,aS_⟩;show(if x=a then l else W.num x).length=4;split
 .exact hl
 .exact w.nl x hx
end
nonrec def oF(a1 a2 a3 a4 a5 a6:xK!):List cf!:=[("parents",.fn a1),("rows",.fn a2),("texts",.fn a3),("numbers",.fn a4),("written",.fn a5),("hidden",.fn a6)]
section
variable{a1 a2 a3 a4 a5 a6:xK!}
def oF1:List.lookup dY_ ao_=some (D.fn a1):=by kernel_rfl
def oF2:List.lookup dk! ao_=some (D.fn a2):=by kernel_rfl
def oF3:List.lookup dZ! ao_=some (D.fn a3):=by kernel_rfl
def oF4:List.lookup e9! ao_=some (D.fn a4):=by kernel_rfl
def oF5:List.lookup n5! ao_=some (D.fn a5):=by kernel_rfl
def oF6:List.lookup v1_ ao_=some (D.fn a6):=by kernel_rfl
def oM1:List.lookup (Str.ofString "has") ao_=none:=by kernel_rfl
def oM2:List.lookup (Str.ofString "has_item") ao_=none:=by kernel_rfl
def oM3:List.lookup (Str.ofString "is_within") ao_=none:=by kernel_rfl
def oM4:List.lookup (Str.ofString "put") ao_=none:=by kernel_rfl
def oM5:List.lookup (Str.ofString "can_move") ao_=none:=by kernel_rfl
def oM6:List.lookup (Str.ofString "move") ao_=none:=by kernel_rfl
def oM7:List.lookup (Str.ofString "write") ao_=none:=by kernel_rfl
def oM8:List.lookup (Str.ofString "cut") ao_=none:=by kernel_rfl
def oM9:List.lookup (Str.ofString "set_number") ao_=none:=by kernel_rfl
def d2g:List.lookup (Str.ofString "children_of") ao_=none:=by kernel_rfl
end
def rM:List.lookup (Str.ofString "put_behind") jT!=none/\List.lookup (Str.ofString "take_out") jT!=none/\List.lookup (Str.ofString "listed") jT!=none/\List.lookup (Str.ofString "holds") jT!=none:=⟨jT_,jT_,jT_,jT_⟩
inductive Nz
 |ob|par|rows|texts|nums|writ|hid|rO (x:D)|rF (x:D)|rP (x:D)|tO (x:D)|tF (x:D)|tP (x:D)|nm (x:D)|oth
structure Qz(t:Ay)(M:Mh)(o:xK!)(rl:bB!)(W:OW)(hb:Nat)(a1 a2 a3 a4 a5 a6:xK!)(k1 k2 k3 k4 k5 k6:g!):Prop where
 ob:M o=some v5_
 d1:∃e,M a1=some (.dct k1 e)
 d2:∃e,M a2=some (.dct k2 e)
 d3:∃e,M a3=some (.dct k3 e)
 d4:∃e,M a4=some (.dct k4 e)
 d5:∃e,M a5=some (.dct k5 e)
 d6:∃e,M a6=some (.dct k6 e)
 ro:rl o=.ob
 r1:rl a1=.par
 r2:rl a2=.rows
 r3:rl a3=.texts
 r4:rl a4=.nums
 r5:rl a5=.writ
 r6:rl a6=.hid
 p0:kget k1 root=some .non/\kget k1 Bi=some .non
 pr:∀i p,bA_∈W.rows->kget k1 i=some p
 row:∀x,Ez W x->∃r f p,kget k2 x=some bi!/\Ej t M r f p bB_/\rl r=.rO x/\rl f=.rF x/\rl p=.rP x
 rown:∀x,¬Ez W x->kget k2 x=none
 txt:∀x,x∈W.its->∃r f p,kget k3 x=some bi!/\Ej t M r f p ((bS!).map b_)/\rl r=.tO x/\rl f=.tF x/\rl p=.tP x
 txtn:∀x,x∉W.its->kget k3 x=none
 num:∀x,x∈W.its->∃q,kget k4 x=some bC!/\M q=some (.lst (W.num x))/\rl q=.nm x
 l1:n6_<=hb
 l2:k2.length<=hb
 l3:k3.length<=hb
 l4:k4.length<=hb
 l5:k5.length<=hb
 l6:k6.length<=hb
 lr:ap!<=hb
 lt:∀x∈W.its,(bS!).length<=hb
 live:∀b,rl b≠.oth->M b≠none
def Ck(t:Ay)(M:Mh)(o:xK!)(rl:bB!)(W:OW)(hb:Nat):Prop:=∃a1 a2 a3 a4 a5 a6 k1 k2 k3 k4 k5 k6,Qz t M o rl W hb a1 a2 a3 a4 a5 a6 k1 k2 k3 k4 k5 k6
def Fr(M:Mh)(rl:bB!)(M':Mh)(ah:bB!):Prop:=∀b,M b≠none->rl b=.oth->M' b=M b/\ah b=.oth
def Fr.refl{M:Mh}{rl:bB!}:Fr M rl M rl:=λb _ h=>cc_
def Fr.trans{M M1 M2:Mh}{rl gk u9:bB!}(B:Fr M rl M1 gk)(J:Fr M1 gk M2 u9):Fr M rl M2 u9:=λb Y hr=>by
 show"!q"
section
variable{t:Ay}{M:Mh}{o:xK!}{rl:Addr->Nz}{W:OW}{hb:Nat}{R:D->Mh->Prop}
def pP{W:OW}(w:Bu W)(h:bC_):∃k,Dk x=some k:=by
 obtain h|rfl|rfl:=h
 .exact(w.nm x h).key
 .exact I!
 .exact I!
def uB{W:OW}(w:Bu W):∀c∈chl W.rows x,∃k,Dk c=some k:=λc hc=>by
 have:=cN.mp hc;exact(w.nm c ((w.ri c).mp vS_)).key
def uA{W:OW}:(bB_).length<=ap!:=by have:=(a3y (rows:=W.rows) (x:=x)).length_le;simpa using this
def c1i{W:OW}(w:Bu W)(hx:n8!):∀c∈(bS!).map b_,∃k,Dk c=some k:=λc hc=>by
 obtain⟨q,hq,rfl⟩:=HK.mp hc;exact(w.sg x hx q hq).key
def Qz.noOb{a1 a2 a3 a4 a5 a6:xK!}{k3:g!}(h:gR!)(hm:(ao_).lookup m=none):Dg t.B4 m M av!:=by simp[Dg,h.ob,hm]
def a3l(h:a5!)(hk:hk!)(hR:R (.bl (open Classical in decide (Ez W x))) M):Cj t [aL_,x] M R:=by
 obtain⟨a1,a2,a3,a4,a5,a6,k1,k2,k3,k4,k5,k6,h⟩:=h;obtain⟨e2,J⟩:=h.d2;refine o_;have e3:(kget k2 x).isSome=(open Classical in decide (Ez W x)):=by
  by_cases z:Ez W x
  .obtain⟨r,f,p,e,_⟩:=h.row x z;rw[e];simp[z]
  .rw[h.rown x z];simp[z]
 rw[<-e3]at hR;simpa[Mm,Bn,w2,wl,Aw,Ic,El,Aa,h.ob,oF2,Hl,J,hk]using hR
def iU(h:a5!)(hk:hk!)(hR:R (.bl (open Classical in decide gR_)) M):Cs t [aL_,x] M R:=by
 obtain⟨a1,a2,a3,a4,a5,a6,k1,k2,k3,k4,k5,k6,h⟩:=h;obtain⟨e2,J⟩:=h.d3;refine o_;have e3:(kget k3 x).isSome=(open Classical in decide gR_):=by
  by_cases z:x∈W.its
  .obtain⟨r,f,p,e,_⟩:=h.txt x z;rw[e];simp[z]
  .rw[h.txtn x z];simp[z]
 rw[<-e3]at hR;simpa[Hu,Bn,w2,wl,Aw,Ic,El,Aa,h.ob,oF3,Hl,J,hk]using hR
def wU(h:a5!)(w:Bu W)(hB:hb<4000)(hx:bC_)(hR:wb!):Dm t [aL_,x] M R:=by obtain⟨a1,a2,a3,a4,a5,a6,k1,k2,k3,k4,k5,k6,h⟩:=h;obtain⟨e2,J⟩:=h.d2;obtain⟨k,hk⟩:=pP w hx;obtain⟨r,f,p,e,hr,_⟩:=h.row x hx;refine o_;simp[Gh,Bn,w2,wl,Aw,Ic,El,Aa,h.ob,oF2,Co,J,hk,e,Bh,Ag,Dg,hr.ob,rM];exact b4n hr (by have:=uA (W:=W) (x:=x);have:=h.lr;omega) (uB w) hR
end
def zS:∀(xs ys:z!),Ih (xs.map D.int) (ys.map D.int)=(xs==ys)
 |[],[]=>by simp[Ih]
 |[],y::ys=>by simp[Ih]
 |x::xs,[]=>by simp[Ih]
 |x::xs,y::ys=>by simp[Ih,Dy,zS xs ys]
def Sd(d:D):Prop:=d=.non\/(∃x,d=.str x)\/(∃i,d=.int i)\/∃ns:List Int,d=.tup jo_
def a6r:∀{xs ys:z!},xs.map D.int=ys.map D.int->xs=ys
 |[],[],_=>rfl
 |[],_::_,h=>by simp at h
 |_::_,[],h=>by simp at h
 |x::xs,y::ys,h=>by
  simp only[GY,QY,D.int.injEq]at h;rw[h.1,a6r h.2]
def lY(hx:Sd x)(hy:Sd y):Dy x y=(open Classical in decide (x=y)):=by
 obtain rfl|⟨a,rfl⟩|⟨i,rfl⟩|⟨ns,rfl⟩:=hx<;>obtain rfl|⟨b,rfl⟩|⟨j,rfl⟩|⟨ms,rfl⟩:=hy<;>simp[Dy,zS]
 all_goals
  rw[KF]
  first
   |(simp only[MH,IF,D.tup.injEq];exact⟨λz=>by rw[z],a6r⟩)
   |(simp only[MH,IF])
   |simp
def zC:∀(ns:z!),Bx o8!=true
 |[]=>by simp[Bx]
 |n::ns=>by simp[Bx,Bd,zC ns]
def eR(h:Sd x):Bd x=true:=by obtain rfl|⟨a,rfl⟩|⟨i,rfl⟩|⟨ns,rfl⟩:=h<;>simp[Bd,zC]
def a7g:∀(ns:z!),Dq o8!<=1
 |[]=>by simp[Dq]
 |n::ns=>by have:=a7g ns;simp[Dq,Gs];omega
def oA(h:Sd x):Gs x<=5:=by
 obtain rfl|⟨a,rfl⟩|⟨i,rfl⟩|⟨ns,rfl⟩:=h<;>simp[Gs]
 have:=a7g ns;omega
def He.sd(h:He x):Sd x:=by obtain⟨a,b,rfl⟩:=h;exact .inr oa!
def Pc.sd(h:Pc x):Sd x:=by obtain⟨a,b,c,rfl⟩:=h;exact .inr wc!
def iA(x:Str):Sd cU_:=.inr (.inl ⟨x,rfl⟩)
def a3f{W:OW}(w:Bu W)(h:bC_):Sd x:=by
 obtain h|rfl|rfl:=h
 .exact(w.nm x h).sd
 .exact iA _
 .exact iA _
def a1n(hx:Sd x)(hy:Sd y):Fb x y=some (.bl (!(open Classical in decide (x=y)))):=by unfold Fb;have:=oA hx;rw[eR hx,eR hy,lY hx hy];rw[HB bL!]
def pU(hx:Sd x)(hy:Sd y):Bb x y=some (.bl (open Classical in decide (x=y))):=by unfold Bb;have:=oA hx;rw[eR hx,eR hy,lY hx hy];rw[HB bL!]
section
variable{t:Ay}{M:Mh}{o:xK!}{rl:Addr->Nz}{W:OW}{hb:Nat}{R:D->Mh->Prop}
def Ej.keep{M':Mh}(h:dV!)(e1:M' r=M r)(e2:M' f=M f)(e3:M' p=M p):Ej t M' r f p xs:=by obtain⟨kf,ef,kp,ep,hf,hp,K⟩:=h.dc;exact⟨e1.trans h.ob,⟨kf,ef,kp,ep,e2.trans hf,e3.trans hp,K⟩,h.ne⟩
def Ej.live(h:dV!):M r≠none/\M f≠none/\M p≠none:=by obtain⟨kf,ef,kp,ep,hf,hp,K⟩:=h.dc;exact⟨by rw[h.ob];simp,by rw[hf];simp,by rw[hp];simp⟩
def oZ{ρ:Ad}(hR:∀r f p M',M r=none->M f=none->M p=none->r≠f->r≠p->Ej t M' r f p []->(∀b,b≠r->b≠f->b≠p->M' b=M b)->R bi! M'):Hi t.B5 1 (Ha t) Ag ρ M R:=by
 refine⟨rfl,λr hr=>o_⟩;have nf:∀{f:xK!},Az M r (.obj t.B5 []) f=none->f≠r/\M f=none:=λ{f} z=>by
  by_cases e:f=r
  .rw[e,mup_same]at z;cases z
  .rw[mup_ne e]at z;exact⟨e,z⟩
 intro f hf;obtain⟨f1,f2⟩:=nf hf;refine⟨mup_same,R!,by simp[Dk],F!,?_⟩;simp[wl,Aa,mup_ne,mup_same,GT f1,Bo];intro p hp;have p1:p≠r:=λe=>by rw[e,mup_same]at hp;cases hp
 rw[ob_]at hp;have p2:p≠f:=λe=>by rw[e,mup_same]at hp;cases hp
 rw[mup_ne p2,mup_ne p2,ob_]at hp;simp[Ek,Mw,wl,fC,Aa,mup_ne,mup_same,GT f1,GT p1,Bo,Dk];have hne:¬(Str.ofString "following"=Str.ofString "preceding"):=by decide+kernel
 refine hR r f p _ hr f2 hp (GT f1) (GT p1) ⟨mup_same,⟨jz_,1,jz_,1,?_,?_,b6d⟩,GT p2⟩ λb B J h3=>?_
 .rw[mup_ne f1,wd_,wd_,mup_ne f1,mup_same]
 .rw[ob_,mup_same]
 .rw[cd!,oc!,oc!,cd!,cA_,cA_,cd!]
def a8k{W:OW}(w:Bu W)(h:n8!):∃p,a3_∈W.rows:=by obtain⟨⟨a,p⟩,hq,rfl⟩:=HK.mp ((w.ri x).mpr h);exact⟨p,hq⟩
def rB{W:OW}(w:Bu W)(h:x∉W.its):∀p,a3_∉W.rows:=λp z=>h ((w.ri x).mp vu!)
def b0w{W:OW}(w:Bu W):root∉W.its:=λz=>(w.nm _ z).nn.2.1 rfl
def c0z{W:OW}(w:Bu W):Bi∉W.its:=λz=>(w.nm _ z).nn.2.2 rfl
def d0c(h:He x\/x=root\/x=Bi):x≠.non:=by
 obtain h|rfl|rfl:=h
 .exact h.nn.1
 .show"!d"
 .show"!d"
def c8e{W:OW}(w:Bu W)(h:bC_):x≠.non:=d0c (h.imp_left (w.nm x))
def rX{k3:g!}(h:gR!)(w:Bu W)(hi:He i){rk:D->Nat}(ic:we_):
  ∀(n:Nat) (x:D),rk x<n->Ez W x->∀(R':p_),(Wn W.rows i x->R' (.nx [G_,K_,K_]) M)->(¬Wn W.rows i x->R' (.nx [G_,some .non,K_]) M)->
   ∃m,Ch gi_ gj! m oc_ M R'
 |0,x,hn,_,_,_,_=>by omega
 |n+1,x,hn,hx,R',r1,r2=>by
  obtain⟨e1,B⟩:=h.d1;have x0:=c8e w hx;have ne:=a1n (a3f w hx) hi.sd;by_cases e:x=i
  .subst e;have:=r1 .here;refine fa!;simpa[Ch,Dh,Cp,fT,f2,Aa,fC,Ap,jR x0,ne]using this
  .have st:∀(p:D) (m:Nat),kget k1 x=some p->Ch gi_ gj! m [G_,cB!,K_] M R'->
     Ch gi_ gj! (m+1) oc_ M R':=λp m hp hw=>by
    obtain⟨k,hk⟩:=pP w hx;rw[Ch];simpa[Dh,Cp,fT,f2,Aa,fC,Ap,jR x0,ne,e,An,w2,wl,Aw,Ic,El,h.ob,oF1,Co,B,hk,hp]using hw
   have top:kget k1 x=some .non->wf_->∃m,Ch gi_ gj! m oc_ M R':=λhp hr=>by
    have:=r2 (b5i hr e);refine⟨1+1,st .non 1 hp ?_⟩;simpa[Ch,Dh,Cp,fT,f2,Aa,fC,Ap,Ci]using this
   obtain hx|rfl|rfl:=hx
   .obtain⟨p,hp⟩:=a8k w hx;have q:=uD w.rnd hp e;have:=ic _ _ hp;obtain⟨m,hm⟩:=rX h w hi ic n p a! (w.rp _ _ hp) R' wg_ (λz=>r2 λy=>z (q.mp y));exact⟨m+1,st p m (h.pr _ _ hp) hm⟩
   .exact top h.p0.1 (rB w (b0w w))
   .exact top h.p0.2 (rB w (c0z w))
def a3e(h:a5!)(w:Bu W)(hx:bC_)(hi:He i)(hR:R (.bl (open Classical in decide (Wn W.rows i x))) M):Fd t [aL_,x,i] M R:=by
 obtain⟨a1,a2,a3,a4,a5,a6,k1,k2,k3,k4,k5,k6,h⟩:=h;obtain⟨rk,ic⟩:=w.rk;obtain⟨m,hm⟩:=rX h w hi ic (rk x+1) x a! hx (λr M1=>match r with|.nx al=>Bn (wl iK!) al M1 gS_|.rt d=>R d M1)
  (λz=>by simp only[z,OO]at hR;simpa[Bn,wl,f2,Aa,fC,Ap,jR hi.nn.1]using hR)
  (λz=>by simp only[z,PH]at hR;simpa[Bn,wl,f2,Aa,fC,Ap,Ci]using hR)
 refine o_;exact⟨m,hm⟩
def a7n(h:a5!)(w:Bu W)(cu:fa_)(hkx:od!)(hR:∀b:Bool,(b=true↔d0!)->R bK_ M):Fn t [aL_,i,x] M R:=by
 have h':=h;show"!3";simp only[Hv,Bn,Mc,wT,Bh,wl,Ac,Ag,Aa];simp[od_];show"!g"
 .simp only[c1,OO,IU];refine⟨hA.noOb oM1,?_⟩;refine a3l h hkx ?_;by_cases c2:Ez W x
  .simp only[c2,OO,IU,Vs,wT,Bh,wl,Ac,Ag,Aa];refine⟨hA.noOb oM3,rfl,?_⟩;refine a3e h w c2 (w.nm i c1) ?_;exact hR _ (by simp[c1,c2])
  .simp only[c2,PH];exact hR _ (by simp[c2])
 .simp only[c1,PH];exact hR _ (by simp[c1])
def xB{p n:Int}(h:a5!)(w:Bu W)(cu:fa_)(p0:0<=p)(p3:p<=3)
  (hR:∀M',Ck t M' o rl (open Classical in if i∈W.its then Sw W i oe! else W) hb->Fr M rl M' rl->R .non M'):Ex t [aL_,i,.int p,aM!] M R:=by
 have h':=h;show"!3";simp only[Gw,Av,wT,Bh,wl,Ac,Ag,Aa];simp[Dg,hA.ob,oM2];show"!g"
 .simp only[c1,IU]at hR;obtain⟨e4,h4⟩:=hA.d4;obtain⟨q,e,hq,j0⟩:=hA.num i c1;have hx:Dx (jX_).length p=some p.toNat:=by
   rw[w.nl i c1];unfold Dx;rw[HB p0,a8_]
  have az:∀b,rl b≠.nm i->Az M q (.lst oe!) b=M b:=λb Y=>mup_ne λz=>Y wi_;have fin:R .non (Az M q (.lst oe!)):=by
   refine hR _ ⟨a1,a2,a3,a4,a5,a6,k1,k2,k3,k4,k5,k6,?_⟩ λb Y hr=>wj!;refine{hA with ob:=?_,d1:=?_,d2:=?_,d3:=?_,d4:=?_,d5:=?_,d6:=?_,row:=?_,txt:=?_,num:=?_,live:=?_}
   .rw[az o O_];exact hA.ob
   .rw[az a1 bT_];exact hA.d1
   .rw[az a2 av_];exact hA.d2
   .rw[az a3 aT_];exact hA.d3
   .rw[az a4 aU!];exact hA.d4
   .rw[az a5 aM_];exact hA.d5
   .rw[az a6 aw!];exact hA.d6
   .show"!r"
   .intro x hx;obtain⟨r,f,p',g1,g2,g3,g4,g5⟩:=hA.txt x hx;exact of_
   .intro x hx;by_cases c:x=i
    .subst c;refine⟨q,e,?_,j0⟩;rw[mup_same];simp[Sw]
    .obtain⟨q',g1,g2,g3⟩:=hA.num x hx;refine⟨q',g1,?_,g3⟩;rw[az q' (by rw[g3];simpa using c),g2];simp[Sw,c]
   .intro b Y;by_cases c:b=q
    .rw[c,mup_same];simp
    .rw[mup_ne c];show"#+"
  simpa[c1,Cd,w2,wl,Aw,Ic,El,Aa,hA.ob,oF4,Co,h4,cu,e,Ki,hq,hx]using fin
 .simp only[c1,IN]at hR;have:=hR M h .refl;simpa[c1,By]using this
end
end K25
namespace K25
open PySem L2 DL
open Classical
section
variable{t:Ay}{M:Mh}{o:xK!}{rl:Addr->Nz}{W:OW}{hb:Nat}{R:D->Mh->Prop}
def Ck.mono{B':Nat}(h:a5!)(Y:hb<=B'):Ck t M o rl W B':=by obtain⟨a1,a2,a3,a4,a5,a6,k1,k2,k3,k4,k5,k6,hA⟩:=h;exact⟨a1,a2,a3,a4,a5,a6,k1,k2,k3,k4,k5,k6,{hA with l1:=IE hA.l1 Y,l2:=IE hA.l2 Y,l3:=IE hA.l3 Y,l4:=IE hA.l4 Y,l5:=IE hA.l5 Y,l6:=IE hA.l6 Y,lr:=IE hA.lr Y,lt:=λx hx=>IE jY! Y}⟩
def qJ(i:D):setT W i a5_=W:=by
 unfold setT;cases W with
 |mk a b c d=>
  congr 1;funext x;split
  .rename_i e;rw[e]
  .rfl
open Classical in
def Gb(cy:a_)(l:ak!):List e7!:=l.map λq=>og_
def c0o(l:ak!):Gb [] l=l:=by unfold Gb;simp
def wR(g:a_)(l:ak!):(Gb g l).map b_=l.map b_:=by unfold Gb;simp
def a7k(g:a_)(s:D)(l:ak!):Gb [s] (Gb g l)=Gb (g++[s]) l:=by unfold Gb;rw[JD];apply JS;intro q _;simp only[Function.comp,GZ];congr 2;rw[Bool.and_assoc];congr 1;by_cases B:q.1∈g<;>by_cases J:q.1∈[s]<;>simp[B,J]
def c4s{l:ak!}(h:s∉l.map b_):Gb [s] l=l:=by
 conv=>rhs;rw[<-List.map_id l]
 apply JS;intro q hq;have:q.1≠s:=λz=>h jO!;simp[this]
def zW(w:Bu W)(hi:gN_)(g:a_):Bu oh_:=by
 refine qH w hi (by rw[wR];exact w.snd i hi) d2_ oi!
 .show"#&";exact w.sg i hi q0 h0
 .show"#&";exact(w.su i hi y hy q0 h0 q' bg e).symm
def qI(i:D)(l l':ak!):setT (setT W i l) i l'=setT W i l':=by unfold setT;congr 1;funext x;dsimp only;split<;>rfl
def a0m(i:D)(l:ak!):(setT W i l).txt i=l:=by simp[setT]
def c3u{ks:MK}{k3:g!}{e6:Nat}(hA:gR!)(w:Bu W)(hi:gN_)(hs:s∈(a5_).map b_):
  Qz t (Az M a6 oi_) o rl wk! fb! a1 a2 a3 a4 a5 a6 k1 k2 k3 k4 k5 (Aq k6 s A!)/\Fr M rl (Az M a6 oi_) rl:=by
 have az:∀b,rl b≠.hid->Az M a6 oi_ b=M b:=λb Y=>mup_ne λz=>Y (by rw[z];exact hA.r6);refine⟨?_,λb Y hr=>wj!⟩;have up:∀{x:Nat},x<=hb->x<=hb+1:=λh=>Nat.le_succ_of_le h;refine{hA with ob:=?_,d1:=?_,d2:=?_,d3:=?_,d4:=?_,d5:=?_,d6:=jZ!,row:=?_,txt:=?_,num:=?_,live:=?_,l1:=up hA.l1,l2:=up hA.l2,l3:=up hA.l3,l4:=up hA.l4,l5:=up hA.l5,l6:=IE dW! (Nat.succ_le_succ hA.l6),lr:=up hA.lr,lt:=?_}
 .rw[az o O_];exact hA.ob
 .rw[az a1 bT_];exact hA.d1
 .rw[az a2 av_];exact hA.d2
 .rw[az a3 aT_];exact hA.d3
 .rw[az a4 aU!];exact hA.d4
 .rw[az a5 aM_];exact hA.d5
 .show"!r"
 .intro x hx;obtain⟨r,f,p',g1,g2,g3,g4,g5⟩:=hA.txt x hx;refine⟨r,f,p',g1,?_,g3,g4,g5⟩;have e:((wk!).txt x).map b_=(bS!).map b_:=by
   show((wk_).map b_)=_;split
   .rename_i z;rw[z,wR]
   .rfl
  rw[e];exact g2.keep (az _ dk_) (az _ d1!) (az _ d1_)
 .intro x hx;obtain⟨q,g1,g2,g3⟩:=hA.num x hx;exact⟨q,g1,(az q dk_).trans g2,g3⟩
 .show∀x∈W.its,(wk_).length<=hb+1;intro x hx;split
  .rw[show(Gb [s] a5_).length=(a5_).length by unfold Gb;simp];exact up (hA.lt i hi)
  .exact up jY!
 .intro b Y;by_cases c:b=a6
  .rw[c,mup_same];simp
  .rw[mup_ne c];show"#+"
abbrev BP(t:Ay):WS:=(Ah sY_
 sZ!)
def wQ{x y z m:Int}(hi:gN_)(w:Bu W):∀(js:z!) (M:Mh) (g:a_) (hb:Nat) (um RB:T_) (R:p_),hb+js.length<4000->Ck t M o rl oh_ hb->
  (∀M' ρ,Ck t M' o rl (setT W i (Gb (g++js.map λj=>.tup jZ_) a5_)) (hb+js.length)->Fr M rl M' rl->R ap_ M')->
  Gf gm! Q! (BP t) (js.map .int) [G_,K_,some d3!,some cB_,um,RB] M R
 |[],M,g,hb,um,RB,R,hB,h,hR=>⟨trivial,hR M _ kb_ .refl⟩
 |j::js,M,g,hb,um,RB,R,hB,h,hR=>by
  refine aN!;have w2:=zW w hi g;obtain⟨ki,cu⟩:=(gU!).key;have je:=h;obtain⟨a1,a2,a3,a4,a5,a6,k1,k2,k3,k4,k5,k6,hA⟩:=je;obtain⟨r,f,p,g1,g2,g3,g4,g5⟩:=hA.txt i hi;obtain⟨e3,h3⟩:=hA.d3;obtain⟨e6,h6⟩:=hA.d6;have l6:k6.length<big:=by have:=hA.l6;unfold big;simp at hB;omega
  simp only[HA]at hB hR;have va:Al j0_ (.tup [eG!])=some gU_:=by simp[Al,big]
  have vb:Bg d3! none (some 2)=some j0_:=by simp[Bg,Db,HT.sIx]
  simp[El,Bq,Ah,An,wl,f2,En,Aa,Au,At,fC,As,Ab,Af,vb,va,Av,wT,Bh,DL.w2,Aw,Ic,hA.ob,oF3,Co,h3,cu,g1,Dg,g2.ob,Ac,Ag,rM,-List.lookup_eq_none_iff];refine a6u g2 gF! ?_;by_cases c:D.tup jZ_∈((oh_).txt i).map b_
  .simp only[c,OO,IU];obtain⟨q1,q2⟩:=c3u (ks:=none) (e6:=Fx k6 gU_ e6) hA w2 hi c;rw[qI,a0m,a7k]at q1;have:=wQ (z:=z) (m:=m) hi w js _ oj! fb! (some dl_) (some gU_) R a! wm_ (λM' ρ h' f'=>hR M' ρ wn! (q2.trans f'));simpa[Cd,wl,Aw,Ic,El,Aa,fC,hA.ob,oF6,Ki,h6,show Dk gU_=some _ from rfl,l6]using this
  .simp only[c,PH];have q1:Ck t M o rl (setT W i (Gb oj! a5_)) fb!:=by
    rw[<-a7k,c4s (by rw[a0m]at c;exact c)];exact h.mono (NY hb)
   have:=wQ (z:=z) (m:=m) hi w js M oj! fb! (some dl_) (some gU_) R a! q1 (λM' ρ h' f'=>hR M' ρ wn! f');simpa[By]using this
def c9b{x y z m:Int}(h:a5!)(w:Bu W)(cu:fa_)(hB:gV!)(z0:0<=z)(m1:1<=m)(m16:z+m<=16)
  (hR:∀M',Ck t M' o rl (open Classical in if i∈W.its then setT W i (Gb wo_ a5_)else W) bj_->Fr M rl M' rl->R .non M'):
  Iw t [aL_,i,.tup j0!,d4!] M R:=by
 have h':=h;show"!3";simp only[Mn,Ah,Av,Jl,wT,Bh,wl,Ac,Ag,Aa];simp[od_];show"!g"
 .simp only[c1,IU]at hR;have hr:Sa dK_ q0_ [G_,K_,some d3!,some cB_,none,none]=some ((wp!).map D.int):=by
   have e1:Ai d3! bs!=some (.int z):=rfl;have e2:(z+m - z).toNat=m.toNat:=by congr 1;omega
   have b:-1000<=z/\z<=100000/\-1000<=z+m/\z+m<=100000:=by omega
   simp[Sa,f2,Aa,fC,e1,Al,b,e2,Rt,Function.comp]
  have:=wQ (t:=t) (o:=o) (rl:=rl) (x:=x) (y:=y) (z:=z) (m:=m) c1 w wp! M [] hb none none gS_ bL! (by rw[c0o,qJ];exact h) (λM' ρ J f2=>hR M' (by
   simp only[JO,JD,HG,KQ]at J;exact J.mono a!) f2)
  simp only[c1,OO,KC,HX,IN,By,Df,Lw,El,hr];show"#;"
 .simp only[c1,IN]at hR;have:=hR M (h.mono a!) .refl;simpa[c1,Pl]using this
def DB(cz:D)(U l:ak!):Prop:=(U=[]/\cz∉l.map b_)\/∃u' q,U=u'++[q]/\q.1=cz/\cz∉u'.map b_
def DB.names(h:DB cz U gW!):Oz s cz ((gW!).map b_)=(wq!).map b_:=by
 obtain⟨rfl,h⟩|⟨u',q,rfl,e,h⟩:=h
 .unfold Oz;rw[GS h];simp
 .unfold Oz;rw[HB gW_];simp only[HU,GY,MC,IY,MY,JO];rw[e,kO h]
def b5e{M1:Mh}{e5:Nat}{k3:g!}(hA:gR!)(w:Bu W)(hi:gN_)
  (hl:W.txt i=U++v)(Y:DB cz U gW!)(hs:Pc s)(hf:∀x∈W.its,s∉(bS!).map b_)(g3:rl r=.tO i)(g4:rl f=.tF i)(g5:rl p=.tP i)(g1:kget k3 i=some bi!)
  (hr:Ej t M1 r f p (Oz s cz ((a5_).map b_)))(fr:∀b,b≠f->b≠p->M1 b=M b):
  Qz t wq_ o rl ok_ fb! a1 a2 a3 a4 a5 a6 k1 k2 k3 k4 (Aq k5 s c) k6/\Fr M rl wq_ rl/\Bu ok_:=by
 have az:∀b,rl b≠.writ->rl b≠.tF i->rl b≠.tP i->Az M1 a5 ok! b=M b:=λb B J h3=>by
  rw[mup_ne λz=>B wr!];exact fr b (λz=>J (by rw[z];exact g4)) (λz=>h3 (by rw[z];exact g5))
 have up:∀{x:Nat},x<=hb->x<=hb+1:=λh=>Nat.le_succ_of_le h;have n5:∀b,rl b≠.writ->Az M1 a5 ok! b=M1 b:=λb B=>mup_ne λz=>B wr!;have tx:∀x,(ok_).txt x=if x=i then U++(s,c,true)::v else W.txt x:=λx=>rfl
 have si:s∉(gW!).map b_:=by rw[<-hl];exact hf i hi
 refine⟨?_,λb b8 xk=>⟨az b ol! ol! ol!,xk⟩,?_⟩
 .refine{hA with ob:=?_,d1:=?_,d2:=?_,d3:=?_,d4:=?_,d5:=jZ!,d6:=?_,row:=?_,txt:=?_,num:=?_,live:=?_,l1:=up hA.l1,l2:=up hA.l2,l3:=up hA.l3,l4:=up hA.l4,l5:=IE dW! (Nat.succ_le_succ hA.l5),l6:=up hA.l6,lr:=up hA.lr,lt:=?_}
  .rw[az o O_ O_ O_];exact hA.ob
  .rw[az a1 bT_ bT_ bT_];exact hA.d1
  .rw[az a2 av_ av_ av_];exact hA.d2
  .rw[az a3 aT_ aT_ aT_];exact hA.d3
  .rw[az a4 aU! aU! aU!];exact hA.d4
  .rw[az a6 aw! aw! aw!];exact hA.d6
  .intro x hx;obtain⟨r',f',p',q1,q2,q3,q4,q5⟩:=hA.row x hx;exact⟨r',f',p',q1,q2.keep ws_ (az _ gX! gX! gX!) (az _ gX_ gX_ gX_),q3,q4,q5⟩
  .intro x hx;by_cases z:x=i
   .subst z;refine wt!;rw[tx,m_,<-Y.names,<-hl];exact hr.keep (n5 _ dk_) (n5 _ d1!) (n5 _ d1_)
   .obtain⟨r',f',p',q1,q2,q3,q4,q5⟩:=hA.txt x hx;refine⟨r',f',p',q1,?_,q3,q4,q5⟩;rw[tx,GS z];exact q2.keep ws_ (az _ gX! (by rw[q4];simpa using z) gX!) (az _ gX_ gX_ (by rw[q5];simpa using z))
  .intro x hx;obtain⟨q,q1,q2,q3⟩:=hA.num x hx;exact⟨q,q1,(az q fc_ fc_ fc_).trans q2,q3⟩
  .intro x hx;rw[tx];by_cases z:x=i
   .subst z;have:=hA.lt x hi;rw[hl]at this;simp at this ⊢;omega
   .rw[GS z];exact up jY!
  .intro b b8;by_cases z:b=a5
   .rw[z,mup_same];simp
   .rw[j2_];by_cases z1:b=f
    .rw[z1];exact hr.live.2.1
    .by_cases z2:b=p
     .rw[z2];exact hr.live.2.2
     .rw[fr b z1 z2];exact hA.live b b8
 .refine qH w hi ?_ d2_ oi!
  .have:=w.snd i hi;rw[hl]at this;simp only[HU,GY]at this si ⊢;rw[IG]at this ⊢;rw[GZ,NV]at si;refine⟨this.1,HH.mpr ⟨si.2,this.2.1⟩,λa ha b b8=>?_⟩;obtain rfl|b8:=GR.mp b8
   .exact λz=>si.1 jB_
   .exact this.2.2 a ha b b8
  .obtain q0|q0:=GZ.mp hq
   .exact w.sg i hi q wu!
   .obtain rfl|q0:=GR.mp q0
    .exact hs
    .exact w.sg i hi q wu_
  .obtain q0|q0:=GZ.mp hq
   .exact(w.su i hi y hy q wu! q' bg e).symm
   .obtain rfl|q0:=GR.mp q0
    .have e':s=q'.1:=e;exact absurd (by rw[e'];exact GV bg) (hf y hy)
    .exact(w.su i hi y hy q wu_ q' bg e).symm
def EV(t:Ay):WS:=(Ah mY!
 (Ah sU_
 (Ah sW!
 (An 5 eL_))))
nonrec def sgn(h n:Int)(q:Nat×Nat):D×D×Bool:=(.tup [aU_,aM!,Ac_],.str ⟨#[q.1]⟩,true)
nonrec def eN(q:Nat×Nat):D:=.tup Ad!
def uC{h n:Int}:∀(cs:i_) (k0:Nat) (M:Mh) (W:OW) (hb:Nat) (U v:ak!) (cz:D) (ka:MK) (RC RD r9:T_) (R:p_),hb+cC_<4000->Ck t M o rl W hb->Bu W->i∈W.its->W.txt i=U++v->DB cz U gW!->Dk cz=some ka->
  (∀x∈W.its,∀k':Nat,k0<=k'->D.tup wv!∉(bS!).map b_)->
  (∀M' ρ,Ck t M' o rl wv_ (hb+cC_)->Bu wv_->Fr M rl M' rl->R ap_ M')->
  Gf (Uy 6 7) Q! (EV t) ((om_).map eN) [G_,bk!,K_,d5_,some tx,some cz,RC,RD,r9] M R
 |[],k0,M,W,hb,U,v,cz,ka,RC,RD,r9,R,hB,hO,w,hi,hl,Y,hk,hf,hR=>by
  refine⟨trivial,hR M _ ?_ ?_ .refl⟩
  .simp only[PK,MC,HV,KD,QP];rw[<-hl,qJ];exact hO
  .simp only[PK,MC,HV];rw[<-hl,qJ];exact w
 |c::cs,k0,M,W,hb,U,v,cz,ka,RC,RD,r9,R,hB,hO,w,hi,hl,Y,hk,hf,hR=>by
  refine aN!;obtain⟨ki,cu⟩:=(gU!).key;obtain⟨a1,a2,a3,a4,a5,a6,k1,k2,k3,k4,k5,k6,hA⟩:=hO;obtain⟨r,f,p,g1,g2,g3,g4,g5⟩:=hA.txt i hi;obtain⟨e3,h3⟩:=hA.d3;obtain⟨e5,h5⟩:=hA.d5;simp only[HA]at hB hR;have l5:k5.length<big:=by have:=hA.l5;unfold big;omega
  have hs:Pc cd_:=ww_;have RE:∀x∈W.its,D.tup j3_∉(bS!).map b_:=λx hx=>hf x hx k0 x_;have va:Al ag_ (.tup [.int (k0:Nat)])=some cd_:=by simp[Al,big]
  have hm:Dg t.B5 "put_behind" M bi!:=by simp only[Dg,g2.ob,rM.1,and_self]
  have hx:∀R',w2 Co gi! I_ on_ M R'=R' bi! M:=by
   intro R';simp[w2,wl,Aw,Ic,hA.ob,oF3,Co,h3,cu,g1,El,Aa]
  show EV t oo! M _;show Ah mY! _ oo! M _;have e8:f2 Al w! (As iR_) oo!=some cd_:=by
   simp[f2,Aa,As,Ab,Af,va]
  simp only[Ah,An,wl,e8,List.set_cons_succ,List.set_cons_zero,Bm,Bh,hx];refine⟨hm,rfl,?_⟩;refine jA g2 gF! hk hs.nn (RE i hi) (by have:=hA.lt i hi;simp;omega) (c1i w hi) λM1 hr fr=>?_;have h5':M1 a5=some (.dct k5 e5):=by
   rw[fr a5 (λz=>by have:=hA.r5;rw[z,g4]at this;cases this) (λz=>by have:=hA.r5;rw[z,g5]at this;cases this)];exact h5
  have ob':M1 o=some v5_:=by
   rw[fr o (λz=>by have:=hA.ro;rw[z,g4]at this;cases this) (λz=>by have:=hA.ro;rw[z,g5]at this;cases this)];exact hA.ob
  obtain⟨q1,q2,q3⟩:=b5e (c:=gA!) (e5:=Fx k5 cd_ e5) hA w hi hl Y hs RE g3 g4 g5 g1 hr fr;have hU:U++wy!::v=(U++[wy!])++v:=by simp
  have:=uC (b:=b) (tx:=tx) (h:=h) (n:=n) cs (k0+1) _ wy_ fb! (U++[oo_]) v cd_ _ (some wx!) (some gz_) (some cd_) R
   (a!) wm_ q3 hi (by rw[a0m,hU]) (.inr ⟨U,_,rfl,rfl,λz=>RE i hi wz_⟩) gF!
   (λx hx k' cx z=>by
    have tx:(wy_).txt x=if x=i then U++oo_::v else W.txt x:=rfl
    rw[tx]at z;by_cases y:x=i
    .subst y;rw[m_]at z;simp only[HU,GY,GZ,GR]at z;obtain z|z|z:=z
     .exact hf x hi k' a! wz_
     .simp at z;omega
     .exact hf x hi k' a! (by rw[hl,HU];exact HD _ z)
    .rw[GS y]at z;exact hf x hx k' a! z)
   (λM' ρ B J f'=>hR M' ρ (by
    rw[qI]at B;rw[show hb+(cs.length+1)=hb+1+cs.length by omega,QQ];simpa[sgn]using B) (by
    rw[qI]at J;simpa[sgn]using J) (q2.trans f'))
  have hp:∀R',Cd sV! eL_ (wl bt_) on_ M1 R'=R' (.nx on_) (Az M1 a5 (.dct (Aq k5 cd_ gz_) (Fx k5 cd_ e5))):=by
   intro R';simp[Cd,wl,Aw,Ic,El,Aa,fC,ob',oF5,Ki,h5',show Dk cd_=some _ from rfl,l5]
  simp only[hp];show"#;"
def b5g{h n:Int}{s:Str}(hO:a5!)(w:Bu W)(cu:fa_)(RF:Dk b=some kb)(hB:gV!)(hs:j4_)
  (hf:∀x∈W.its,∀k':Nat,D.tup wv!∉(bS!).map b_)
  (hR:∀M',Ck t M' o rl wC! bj_->Bu wC!->Fr M rl M' rl->R .non M'):
  Hh t [aL_,gY_,i,b,d6_] M R:=by
 have h':=hO;show"!3";simp only[Kc,Ah,Av,Jl,wT,Bh,wl,Ac,Ag,Aa];simp[od_];refine iU hO cu ?_;by_cases c1:i∈W.its
 .simp only[c1,IU]at hR;obtain⟨U,v,e1,e2,e3⟩:=qE b d6! a5_;have hl:gZ!<=16:=by simpa[Str.length]using hs
  have hi:Sb G! [G_,bk!,K_,d5_,some aV!,d5_,none,none,none]=some (s.cps.toList.zipIdx.map eN):=by
   simp[Sb,Aa,eN]
  have:=uC (t:=t) (o:=o) (rl:=rl) (b:=b) (tx:=d6_) (h:=h) (n:=n) s.cps.toList 0 M W hb U v b kb none none none gS_ a! hO w c1 e1 (by rw[<-e1];exact e3) RF (λx hx k' _=>hf x hx k')
   (λM' ρ B J f'=>hR M' (by rw[<-e2]at B;exact B.mono a!) (by rw[<-e2]at J;exact J) f')
  simp only[c1,OO,KC,HX,IN,By,An,wl,Df,Lw,El];simp only[Aa,List.getElem?_cons_zero,List.getElem?_cons_succ,Option.join_some,List.set_cons_succ,List.set_cons_zero];show"#;"
 .simp only[c1,IN]at hR;have:=hR M oq_ w .refl;simpa[c1,Pl]using this
def aV{N:Mh}(Y:N b≠none)(hc:N c=none):b≠c:=λz=>Y (by rw[z];exact hc)
def c0s(h:∀i,(i,x)∉rows):chl rows x=[]:=by
 cases e:chl rows x with
 |nil=>rfl
 |cons a l=>exact absurd (cN.mp (by rw[e];simp:a∈chl rows x)) (h a)
def Ej.rne(h:dV!):r≠f/\r≠p:=by
 obtain⟨kf,ef,kp,ep,hf,hp,K⟩:=h.dc;refine⟨cI_,cI_⟩
 .have:=h.ob;rw[z,hf]at this;cases this
 .have:=h.ob;rw[z,hp]at this;cases this
def b6m{f1 p1 f2 p2:xK!}{k3:g!}{M2 M3 M5:Mh}{e1 e2 e3 e4:Nat}(hA:gR!)(w:Bu W)(hn:n0_)(ht:He n)(hp:Ez W pl)
  (hg:Qt W.rows n pl b rows')(g1:kget k2 pl=some bi!)(g3:rl r=.rO pl)(g4:rl f=.rF pl)(g5:rl p=.rP pl)
  (R2:Ej t M2 r f p (Oz n b (chl W.rows pl)))(K2:∀c,c≠f->c≠p->M2 c=Az M a1 (.dct or_ e1) c)
  (z1:M2 r1=none)(z2:M2 f1=none)(z3:M2 p1=none)(R3:Ej t M3 r1 f1 p1 [])(K3:∀c,c≠r1->c≠f1->c≠p1->M3 c=M2 c)
  (y1:Az M3 a2 gZ_ r2=none)(y2:Az M3 a2 gZ_ f2=none)(y3:Az M3 a2 gZ_ p2=none)(R5:Ej t M5 r2 f2 p2 [])(K5:∀c,c≠r2->c≠f2->c≠p2->M5 c=Az M3 a2 gZ_ c)
  (x1:Az M5 a3 ot_ q=none):
  ∃ah,Qz t wF_ o ah bS_ bj_ a1 a2 a3 a4 a5 a6 or_ os! ot! (Aq k4 n bC!) k5 k6/\
   Fr M rl wF_ ah:=by
 have bd:∀{c d:xK!},rl c≠rl d->c≠d:=λh z=>h j5!;have lv:∀c,rl c≠.oth->M c≠none:=hA.live;have A1:M a1≠none:=lv _ bT_;have A2:M a2≠none:=lv _ av_;have A3:M a3≠none:=lv _ aT_;have A4:M a4≠none:=lv _ aU!;have AF:M f≠none:=lv _ d1!;have AP:M p≠none:=lv _ d1_;have s2:∀c,M c≠none->M2 c≠none:=λc hc=>by
  by_cases c1:c=f
  .rw[c1];exact R2.live.2.1
  .by_cases c2:c=p
   .rw[c2];exact R2.live.2.2
   .rw[K2 c c1 c2];by_cases c3:c=a1
    .rw[c3,mup_same];simp
    .rw[ov!];exact hc
 have jf:∀c,M c≠none->c≠r1/\c≠f1/\c≠p1:=λc hc=>⟨aV ov_ z1,aV ov_ z2,aV ov_ z3⟩;have s3:∀c,M c≠none->M3 c≠none:=λc hc=>by rw[ow!];exact s2 c hc
 have xl:∀c,M3 c≠none->Az M3 a2 gZ_ c≠none:=λc hc=>by
  by_cases c3:c=a2
  .rw[c3,mup_same];simp
  .rw[ov!];exact hc
 have gn:∀c,M3 c≠none->c≠r2/\c≠f2/\c≠p2:=λc hc=>⟨aV ox! y1,aV ox! y2,aV ox! y3⟩;have f9:∀c,M3 c≠none->M5 c≠none:=λc hc=>by rw[wH_];exact xl c hc
 have VR:∀c,M5 c≠none->Az M5 a3 ot_ c≠none:=λc hc=>by
  by_cases c3:c=a3
  .rw[c3,mup_same];simp
  .rw[ov!];exact hc
 have nq:∀c,M5 c≠none->c≠q:=λc hc=>aV (VR c hc) x1;have a1f:a1≠f:=bd (by rw[hA.r1,g4];simp);have a1p:a1≠p:=bd (by rw[hA.r1,g5];simp);have fin:∀c,M c≠none->c≠a1->c≠f->c≠p->c≠a2->c≠a3->c≠a4->Az d7_ a4 d8! c=M c:=λc hc B J h3 h4 h5 h6=>by
  rw[g1!,wI!,j6_,wI_,oy_,ow!,K2 c J h3,cd!]
 have vc:∀c,M c≠none->c≠a2->c≠a3->c≠a4->Az d7_ a4 d8! c=M2 c:=λc hc h4 h5 h6=>by
  rw[g1!,wI!,j6_,wI_,oy_,ow!]
 have VS:∀c,M3 c≠none->c≠a2->c≠a3->c≠a4->Az d7_ a4 d8! c=M3 c:=λc hc h4 h5 h6=>by
  rw[g1!,mup_ne (nq c (f9 c hc)),j6_,wH_,oy_]
 have xm:∀c,M5 c≠none->c≠a3->c≠a4->Az d7_ a4 d8! c=M5 c:=λc hc h5 h6=>by
  rw[g1!,wJ!,j6_]
 generalize hM8:Az d7_ a4 d8!=M8 at fin vc VS xm;have VT:=R3.rne;have VU:=R5.rne;obtain⟨v1,v2,v3⟩:=R3.live;obtain⟨v4,v5,v6⟩:=R5.live
 let ah:Addr->Nz:=λc=>if c=r1 then .rO n else if c=f1 then .rF n else if c=p1 then .rP n else if c=r2 then .tO n else if c=f2 then .tF n else if c=p2 then .tP n else if c=q then .nm n else rl c
 have old:∀c,M c≠none->ah c=rl c:=λc hc=>by
  have B:=jf c hc;have J:=gn c j6!;have h3:=nq c (f9 c j6!);show wJ_=_;rw[GS B.1,GS B.2.1,GS B.2.2,GS J.1,GS J.2.1,GS J.2.2,GS h3]
 have q1:ah r1=.rO n:=HB rfl;have q2:ah f1=.rF n:=by show(if f1=r1 then _ else _)=_;rw[GS (GT VT.1),m_]
 have q3:ah p1=.rP n:=by show(if p1=r1 then _ else _)=_;rw[GS (GT VT.2),GS (GT R3.ne),m_]
 have w1:∀c,M3 c≠none->c≠r2/\c≠f2/\c≠p2:=gn;have q4:ah r2=.tO n:=by show(if r2=r1 then _ else _)=_;rw[GS (GT (oz!).1),GS (GT (oz_).1),GS (GT (oA!).1),m_]
 have q5:ah f2=.tF n:=by show(if f2=r1 then _ else _)=_;rw[GS (GT (oz!).2.1),GS (GT (oz_).2.1),GS (GT (oA!).2.1),GS (GT VU.1),m_]
 have q6:ah p2=.tP n:=by show(if p2=r1 then _ else _)=_;rw[GS (GT (oz!).2.2),GS (GT (oz_).2.2),GS (GT (oA!).2.2),GS (GT VU.2),GS (GT R5.ne),m_]
 have q7:ah q=.nm n:=by
  show(if q=r1 then _ else _)=_;rw[GS (GT (nq _ (f9 _ v1))),GS (GT (nq _ (f9 _ v2))),GS (GT (nq _ (f9 _ v3))),GS (GT (nq _ v4)),GS (GT (nq _ v5)),GS (GT (nq _ v6)),m_]
 have na:∀c,M c≠none->wN!:=jf;have im:∀x,x∈(bS_).its↔x∈W.its\/x=n:=λx=>by simp[Hn]
 have jz:wo W.rows n=W.rows:=by
  refine KA.mpr λq hq=>?_;show"!t";exact λz=>hn ((w.ri n).mp jO!)
 have nP:¬Ez W n:=λz=>z.elim hn λz=>z.elim ht.nn.2.1 ht.nn.2.2;have VV:∀x,Ez bS_ x↔Ez W x\/x=n:=λx=>by unfold Ez;rw[im];constructor<;>(intro z;rcases z with(z|z)|z<;>simp[z])
 have up:∀{x:Nat},x<=hb->x<=hb+20:=λh=>by omega
 have up1:∀{l:g!} {d v:D},Y!<=hb->(e2_).length<=hb+20:=λh=>IE dW! a!;have c1:∀c,rl c≠.oth->rl c≠.par->rl c≠.rows->rl c≠.texts->rl c≠.nums->rl c≠.rF pl->rl c≠.rP pl->M8 c=M c:=λc h0 B J h3 h4 h5 h6=>
  fin c (lv c h0) (λz=>B oB_) (λz=>h5 oC_) (λz=>h6 oD!) (λz=>J (by rw[z,hA.r2])) (λz=>h3 (by rw[z,hA.r3])) (λz=>h4 (by rw[z,hA.r4]))
 refine⟨ah,?_,λc hc hr=>⟨fin c hc (bd (by rw[hr,hA.r1];simp)) (bd (by rw[hr,g4];simp)) (bd (by rw[hr,g5];simp)) (bd (by rw[hr,hA.r2];simp)) (bd (by rw[hr,hA.r3];simp)) (bd (by rw[hr,hA.r4];simp)),by rw[old c hc];exact hr⟩⟩;have e8:∀c,M8 c=Az d7_ a4 d8! c:=λc=>by rw[hM8]
 refine
  {ob:=(c1 o O_ O_ O_ O_ O_ O_ O_).trans hA.ob
   d1:=⟨e1,?d1⟩,d2:=⟨e2,?d2⟩,d3:=⟨e3,?d3⟩,d4:=⟨e4,?d4⟩,d5:=?d5,d6:=?d6
   ro:=(old o (lv o O_)).trans hA.ro,r1:=(old a1 A1).trans hA.r1,r2:=(old a2 A2).trans hA.r2,r3:=(old a3 A3).trans hA.r3,r4:=(old a4 A4).trans hA.r4
   r5:=(old a5 (lv _ aM_)).trans hA.r5,r6:=(old a6 (lv _ aw!)).trans hA.r6
   p0:=⟨by rw[eH ht.nn.2.1];exact hA.p0.1,by rw[eH ht.nn.2.2];exact hA.p0.2⟩
   pr:=?pr,row:=?row,rown:=?rown,txt:=?txt,txtn:=?txtn,num:=?num
   l1:=up1 hA.l1,l2:=up1 hA.l2,l3:=up1 hA.l3,l4:=up1 hA.l4,l5:=up hA.l5,l6:=up hA.l6,lr:=?lr,lt:=?lt,live:=?live}
 case d1=>rw[vc a1 A1 (bd (by rw[hA.r1,hA.r2];simp)) (bd (by rw[hA.r1,hA.r3];simp)) (bd (by rw[hA.r1,hA.r4];simp)),K2 a1 a1f a1p,mup_same]
 case d2=>
  have h3:=s3 a2 A2;rw[e8,mup_ne (bd (by rw[hA.r2,hA.r4];simp)),mup_ne (nq a2 (f9 a2 h3)),mup_ne (bd (by rw[hA.r2,hA.r3];simp)),K5 a2 (oD_).1 (oD_).2.1 (oD_).2.2,mup_same]
 case d3=>rw[e8,mup_ne (bd (by rw[hA.r3,hA.r4];simp)),mup_ne (nq a3 (f9 a3 (s3 a3 A3))),mup_same]
 case d4=>rw[e8,mup_same]
 case d5=>rw[c1 a5 aM_ aM_ aM_ aM_ aM_ aM_ aM_];exact hA.d5
 case d6=>rw[c1 a6 aw! aw! aw! aw! aw! aw! aw!];exact hA.d6
 case pr=>
  intro i p' hm;obtain z|z:=hg.mem.mp hm
  .cases z;rw[dQ]
  .rw[jz]at z;rw[eH λy=>rB w hn p' wR_];exact hA.pr i p' z
 case row=>
  intro x hx;obtain hx|rfl:=(VV x).mp hx
  .obtain⟨r',f',p',u1,u2,u3,u4,u5⟩:=hA.row x hx;have xn:n≠x:=λz=>nP ka!;have L1:=lv r' ak_;have L2:=lv f' aD_;have L3:=lv p' aE!;by_cases xo:pl=x
   .subst xo;rw[g1]at u1;cases u1;refine⟨r,f,p,by rw[eH xn];exact g1,?_,(old r L1).trans g3,(old f AF).trans g4,(old p AP).trans g5⟩;show Ej t M8 r f p (chl rows' pl);rw[wS!,jz];exact R2.keep (vc r L1 (bd (by rw[g3,hA.r2];simp)) (bd (by rw[g3,hA.r3];simp)) (bd (by rw[g3,hA.r4];simp))) (vc f AF (bd (by rw[g4,hA.r2];simp)) (bd (by rw[g4,hA.r3];simp)) (bd (by rw[g4,hA.r4];simp))) (vc p AP (bd (by rw[g5,hA.r2];simp)) (bd (by rw[g5,hA.r3];simp)) (bd (by rw[g5,hA.r4];simp)))
   .refine⟨r',f',p',oF_,?_,(old r' L1).trans u3,(old f' L2).trans u4,(old p' L3).trans u5⟩;show Ej t M8 r' f' p' (chl rows' x);rw[hg.chl_ne xo,jz];exact u2.keep wV_ (c1 f' aD_ aD_ aD_ aD_ aD_ (by rw[u4];simpa using GT xo) aD_) (c1 p' aE! aE! aE! aE! aE! aE! (by rw[u5];simpa using GT xo))
  .refine⟨r1,f1,p1,dQ _ _ _,?_,q1,q2,q3⟩;have np:pl≠x:=λz=>nP (z▸hp);show Ej t M8 r1 f1 p1 (chl rows' x);rw[hg.chl_ne np,jz,c0s λi z=>nP (w.rp _ _ z)];have e:∀c,M3 c≠none->(∀d,M d≠none->d≠c)->M8 c=M3 c:=λc B J=>VS c B (GT (J a2 A2)) (GT (J a3 A3)) (GT (J a4 A4));exact R3.keep (e r1 v1 λd hd=>(oG!).1) (e f1 v2 λd hd=>(oG!).2.1) (e p1 v3 λd hd=>(oG!).2.2)
 case rown=>
  intro x hx;rw[VV,NV]at hx;rw[eH (GT hx.2)];exact hA.rown x hx.1
 case txt=>
  intro x hx;obtain hx|rfl:=(e7_).mp hx
  .obtain⟨r',f',p',u1,u2,u3,u4,u5⟩:=hA.txt x hx;have xn:n≠x:=λz=>hn ka!;refine⟨r',f',p',oF_,?_,(old r' (lv r' ak_)).trans u3,(old f' (lv f' aD_)).trans u4,(old p' (lv p' aE!)).trans u5⟩;have e:(bS_).txt x=W.txt x:=by show oI_=_;rw[GS (GT xn)]
   rw[e];exact u2.keep wV_ (c1 f' aD_ aD_ aD_ aD_ aD_ aD_ aD_) (c1 p' aE! aE! aE! aE! aE! aE! aE!)
  .refine⟨r2,f2,p2,dQ _ _ _,?_,q4,q5,q6⟩;have e:(oJ!).txt x=[]:=by show oJ_=_;rw[m_]
   rw[e];have o3:=w1 a3 (s3 a3 A3);have o4:=w1 a4 (s3 a4 A4);exact R5.keep (xm r2 v4 (GT o3.1) (GT o4.1)) (xm f2 v5 (GT o3.2.1) (GT o4.2.1)) (xm p2 v6 (GT o3.2.2) (GT o4.2.2))
 case txtn=>
  intro x hx;rw[im,NV]at hx;rw[eH (GT hx.2)];exact hA.txtn x hx.1
 case num=>
  intro x hx;obtain hx|rfl:=(e7_).mp hx
  .obtain⟨q',u1,u2,u3⟩:=hA.num x hx;have xn:n≠x:=λz=>hn ka!;refine⟨q',oF_,?_,(old q' (lv q' ak_)).trans u3⟩;have e:(bS_).num x=W.num x:=by show oI_=_;rw[GS (GT xn)]
   rw[e,c1 q' ak_ ak_ ak_ ak_ ak_ ak_ ak_];exact u2
  .refine⟨q,dQ _ _ _,?_,q7⟩;have e:(oJ!).num x=wE_:=by show oJ_=_;rw[m_]
   rw[e,e8,wX_,mup_same]
 case lr=>
  obtain⟨u,v,e,rfl,_⟩:=hg;rw[jz]at e;show(u++(n,pl)::v).length<=_;have:=hA.lr;rw[e]at this;simp at this ⊢;omega
 case lt=>
  intro x hx;obtain hx|rfl:=(e7_).mp hx
  .have e:(bS_).txt x=W.txt x:=by show oI_=_;rw[GS (λz:x=n=>hn ka!)]
   rw[e];exact up jY!
  .have e:(oJ!).txt x=[]:=by show oJ_=_;rw[m_]
   rw[e];simp
 case live=>
  intro c hc;have s8:∀c,M5 c≠none->M8 c≠none:=λc hc=>by
   rw[e8];by_cases h6:c=a4
   .rw[h6,mup_same];simp
   .rw[g1!,wJ!];exact VR c hc
  by_cases hM:M c=none
  .by_cases vd:c=r1
   .rw[vd];exact s8 _ (f9 _ v1)
   .by_cases ve:c=f1
    .rw[ve];exact s8 _ (f9 _ v2)
    .by_cases lu:c=p1
     .rw[lu];exact s8 _ (f9 _ v3)
     .by_cases l8:c=r2
      .rw[l8];exact s8 _ v4
      .by_cases l9:c=f2
       .rw[l9];exact s8 _ v5
       .by_cases nh:c=p2
        .rw[nh];exact s8 _ v6
        .by_cases vf:c=q
         .rw[vf,e8,wX_,mup_same];simp
         .have:ah c=rl c:=by show wJ_=_;rw[GS vd,GS ve,GS lu,GS l8,GS l9,GS nh,GS vf]
          rw[this]at hc;exact absurd hM (lv c hc)
  .exact s8 _ (f9 _ (s3 c hM))
end
section
variable{t:Ay}{M:Mh}{ρ:Ad}{R:Fl->Mh->Prop}
def a0o{fo fi f:WE}{q:WS}(h:f ρ M λv M1=>fo ρ M1 λd M2=>fi ρ M2 λy M3=>El pQ! λM4=>q ρ M4 R):Ah (Cd fo fi f) q ρ M R:=by exact h
def a4m{f:WE}{q:WS}(h:f ρ M λ_ M1=>q ρ M1 R):Ah (Bm f) q ρ M R:=h
def oM{o:xK!}{fs:aN_}{kvs:g!}{ep:Nat}{fo fi:e_}{Q:cL_}(h0:fo ρ=some av!)(B:fi ρ=some y)(hM:M o=some g4_)(hx:fs.lookup x=some C_)(hp:bU_)(hk:cg!)(hl:ds_)
  (hQ:Q hy!):Aw C x ce_ ρ M (λd M2=>wl fi ρ M2 λy M3=>El pQ! λM4=>Q M4):=by
 have e:Ki M C_ y v=some hy!:=by simp[Ki,hp,hk,hl]
 simp only[Aw,wl,h0,Ic,hM,IU,hx,El,B,e];exact hQ
def d0x{g:WF}{fo:WE}{f1 f2:e_}{K:u_}(h0:∀K,fo ρ M K=K d M)(ho:k6_)(B:fg!)(J:g5!)(k:g [d,a,b] M K):Bh C m 3 g fo oK_ ρ M K:=by unfold Bh Ac Ag;rw[h0];simp only[wl,B,J];exact oL!
def Yl(t:Ay):WS:=Ah sP!
 (Ah sP_
 (Ah sQ_
 (Ah sR_
 sS!)))
end
section
variable{t:Ay}{M:Mh}{o:xK!}{rl:Addr->Nz}{W:OW}{hb:Nat}{R:D->Mh->Prop}
def c6i(hO:a5!)(w:Bu W)(hn:n0_)(ht:He n)(lj:dn_)(RF:Dk b=some kb)(hB:gV!)(hg:Qt W.rows n do! b rows')
  (hR:∀M' ah,Ck t M' o ah bS_ bj_->Fr M rl M' ah->R .non M'):Iv t [aL_,n,a,b] M R:=by
 have h':=hO;obtain⟨a1,a2,a3,a4,a5,a6,k1,k2,k3,k4,k5,k6,hA⟩:=h';obtain⟨e1,B⟩:=hA.d1;obtain⟨e2,J⟩:=hA.d2;obtain⟨e3,h3⟩:=hA.d3;obtain⟨e4,h4⟩:=hA.d4;obtain⟨kn,gb⟩:=ht.key;have bd:∀{c d:xK!},rl c≠rl d->c≠d:=λh z=>h j5!;have L1:n6_<big:=by have:=hA.l1;unfold big;omega
 have L2:k2.length<big:=by have:=hA.l2;unfold big;omega
 have L3:k3.length<big:=by have:=hA.l3;unfold big;omega
 have L4:k4.length<big:=by have:=hA.l4;unfold big;omega
 have hp:Ez W do!:=by split;assumption;exact .inr g5_
 refine o_;have hm:Dg t.B4 "has" M av!:=hA.noOb oM1;generalize hK:w2_=KK;have g9:∀ρ' M',R .non M'->KK cl_ M':=λρ' M' z=>by rw[<-hK];exact z
 have key:∀pl,pl=do!->Yl t fg_ M KK:=by
  intro pl epl;rw[<-epl]at hg hp;obtain⟨r,f,p,g1,g2,g3,g4,g5⟩:=hA.row pl hp;obtain⟨kpl,hkpl⟩:=pP w hp;refine a0o ?_;have f4:Aa 4 fg_=some pl:=rfl;have vg:Aa 1 fg_=some n:=rfl;have f3:Aa 3 fg_=some b:=rfl;have f0:Aa 0 fg_=some av!:=rfl;refine oM f0 vg hA.ob oF1 B gb L1 ?_;refine a4m ?_;have n1:∀c,rl c≠.par->Az M a1 oL_ c=M c:=λc hc=>mup_ne λz=>hc oB_;have RG:∀R',w2 Co cu! aB! fg_ oM! R'=R' bi! oM!:=by
   intro R';simp[w2,wl,Aw,Ic,n1 o O_,n1 a2 av_,hA.ob,oF2,Co,J,hkpl,g1,El,Aa]
  have vh:=g2.keep (M':=Az M a1 oL_) (n1 r dk_) (n1 f d1!) (n1 p d1_);have ub:Dg t.B5 "put_behind" oM! bi!:=by simp only[Dg,vh.ob,rM.1,and_self]
  refine d0x RG ub vg f3 ?_;refine jA vh gb RF ht.nn.1 (λz=>rB w hn pl oM_) (by have:=uA (W:=W) (x:=pl);have:=hA.lr;omega) (uB w) λM2 R2 K2=>?_;have m2:∀c,rl c≠.par->rl c≠.rF pl->rl c≠.rP pl->M2 c=M c:=λc B J h3=>(K2 c (λz=>J oC_) (λz=>h3 oD!)).trans (n1 c B);have qz:M2 o=_:=(m2 o O_ O_ O_).trans hA.ob;have VW:M2 a2=_:=(m2 a2 av_ av_ av_).trans J;have VX:M2 a3=_:=(m2 a3 aT_ aT_ aT_).trans h3;have VY:M2 a4=_:=(m2 a4 aU! aU! aU!).trans h4;refine a0o ?_;refine oZ λr1 f1 p1 M3 z1 z2 z3 _ _ R3 K3=>?_;have m3:∀c,M2 c≠none->M3 c=M2 c:=λc hc=>K3 c (aV hc z1) (aV hc z2) (aV hc z3);have RH:=(m3 o (by rw[qz];simp)).trans qz;have d32:=(m3 a2 (by rw[VW];simp)).trans VW;have VZ:=(m3 a3 (by rw[VX];simp)).trans VX;have V':=(m3 a4 (by rw[VY];simp)).trans VY;have oa2:o≠a2:=bd (by rw[hA.ro,hA.r2];simp);have WB:o≠a3:=bd (by rw[hA.ro,hA.r3];simp);have RI:a3≠a2:=bd (by rw[hA.r3,hA.r2];simp);have a42:a4≠a2:=bd (by rw[hA.r4,hA.r2];simp);have WC:a4≠a3:=bd (by rw[hA.r4,hA.r3];simp);refine oM f0 vg RH oF2 d32 gb L2 ?_;refine a0o ?_;refine oZ λr2 f2 p2 M5 y1 y2 y3 _ _ R5 K5=>?_;have m5:∀c,c≠a2->M3 c≠none->M5 c=M3 c:=λc h0 hc=>by
   have q:Az M3 a2 (.dct os! (Fx k2 n e2)) c≠none:=by rw[mup_ne h0];exact hc
   rw[K5 c (aV q y1) (aV q y2) (aV q y3),mup_ne h0]
  have RJ:=(m5 o oa2 (by rw[RH];simp)).trans RH;have d53:=(m5 a3 RI (by rw[VZ];simp)).trans VZ;have WD:=(m5 a4 a42 (by rw[V'];simp)).trans V';refine oM f0 vg RJ oF3 d53 gb L3 ?_;refine⟨R!,⟨R!,R!,R!⟩,λq x1=>?_⟩;have q0:o≠q:=aV (N:=w6!) (by rw[mup_ne WB,RJ];simp) x1;have q4:a4≠q:=aV (N:=w6!) (by rw[mup_ne WC,WD];simp) x1;obtain⟨ah,F1,F2⟩:=b6m (e1:=Fx k1 n e1) (e2:=Fx k2 n e2) (e3:=Fx k3 n e3) (e4:=Fx k4 n e4) hA w hn ht hp hg g1 g3 g4 g5 R2 K2 z1 z2 z3 R3 K3 y1 y2 y3 R5 K5 x1;have:=hR _ ah ⟨_,_,_,_,_,_,_,_,_,_,_,_,F1⟩ F2;exact oM (kvs:=k4) (ep:=e4) f0 vg ((mup_ne q0).trans ((mup_ne WB).trans RJ)) oF4 ((mup_ne q4).trans ((mup_ne WC).trans WD)) gb L4 (g9 _ _ this)
 show Ah sO! (Yl t) w7_ M KK;have hh:∀K:D->Mh->Prop,Cj t [aL_,a] M K->Bh t.B4 "has" 2 (Cj t) j_ gh! w7_ M K:=λK vi=>⟨hm,rfl,vi⟩;refine hh _ (a3l hO lj ?_);by_cases c:Ez W a
 .rw[HY c];exact key a (by rw[HB c])
 .rw[HF c];exact key Bi (by rw[GS c])
def tR(hO:a5!)(w:Bu W)(cu:fa_)(hkx:od!)(ou:Dk s=some ks)(hB:gV!)
  (hR:∀M',(d0!->∀rows',Qt W.rows i x s rows'->Ck t M' o rl {W with rows:=rows'} bj_)->(¬d0!->Ck t M' o rl W bj_)->Fr M rl M' rl->R .non M'):
  Fz t [aL_,i,x,s] M R:=by
 have h':=hO;obtain⟨a1,a2,a3,a4,a5,a6,k1,k2,k3,k4,k5,k6,hA⟩:=h';obtain⟨e1,B⟩:=hA.d1;obtain⟨e2,J⟩:=hA.d2;refine o_;show Ah oP_ _ oQ! M _;simp only[Ah,Av,Jl,wT,Bh,wl,Ac,Ag,Aa,List.getElem?_cons_zero,List.getElem?_cons_succ,Option.join_some];refine⟨hA.noOb oM5,rfl,?_⟩;refine a7n hO w cu hkx λb Y=>?_;cases b with
 |false=>
  have hc:¬d0!:=λz=>by have:=Y.mpr z;cases this
  have:=hR M (λz=>absurd z hc) (λ_=>hO.mono a!) .refl;simpa[Pl]using this
 |true=>
  have hc:=Y.mp rfl;obtain⟨hi,hx,hw⟩:=hc;obtain⟨p0,dw⟩:=a8k w hi;have WG:Ez W p0:=w.rp _ _ dw;obtain⟨r0,f0,q0,u1,u2,u3,u4,u5⟩:=hA.row p0 WG;obtain⟨r,f,p,g1,g2,g3,g4,g5⟩:=hA.row x hx;obtain⟨RA,hkp0⟩:=pP w WG;obtain⟨uu,vv,c1,c2⟩:=b0d w.rnd dw;have lr:=hA.lr;have hx0:∀R',w2 Co cu! mV! oQ! M R'=R' (.fn r0) M:=by
   intro R';simp[w2,wl,Aw,Ic,hA.ob,oF1,oF2,Co,B,J,cu,hA.pr i p0 dw,hkp0,u1,El,Aa]
  have WH:Dg t.B5 "take_out" M (.fn r0):=by simp only[Dg,u2.ob,rM.2.1,and_self]
  simp only[Bool.not_true,Bool.false_eq_true,if_false,By,Bm,Bh,hx0];refine⟨WH,rfl,?_⟩;refine a4j u2 c1 cu (by have:=uA (W:=W) (x:=p0);omega) (uB w) λM1 R1 K1=>?_;rw[<-c2]at R1;have m1:∀c,rl c≠.rF p0->rl c≠.rP p0->M1 c=M c:=λc B J=>K1 c (λz=>B (by rw[z,u4])) (λz=>J (by rw[z,u5]));have wx:=(m1 o O_ O_).trans hA.ob;have d11:=(m1 a1 bT_ bT_).trans B;have d12:=(m1 a2 av_ av_).trans J;have vh:Ej t M1 r f p (chl kh_ x):=by
   by_cases e:p0=x
   .subst e;rw[u1]at g1;cases g1;obtain⟨z1,z2⟩:f=f0/\p=q0:=by
     have:=u2.ob;rw[g2.ob]at this;simp at this;show"#;"
    rw[z1,z2];exact R1
   .rw[zY λz=>e xb!];exact g2.keep (m1 r dk_ dk_) (m1 f (by rw[g4];simpa using Ne.symm e) d1!) (m1 p d1_ (by rw[g5];simpa using Ne.symm e))
  have RG:∀R',w2 Co cu! I_ oQ! M1 R'=R' bi! M1:=by
   intro R';simp[w2,wl,Aw,Ic,wx,oF2,Co,d12,hkx,g1,El,Aa]
  have xq:Dg t.B5 "put_behind" M1 bi!:=by simp only[Dg,vh.ob,rM.1,and_self]
  simp only[RG];refine⟨xq,rfl,?_⟩;have lw:(chl kh_ x).length<=ap!:=by
   have a:=(a3y (rows:=wo W.rows i) (x:=x)).length_le;have b:=(xb_).length_le;simp at a b;omega
  refine jA vh cu ou (gU!).nn.1 (λz=>(kG.mp oM_).2 rfl) a! (λc hc=>uB w c (cN.mpr (kG.mp do_).1)) λM2 R2 K2=>?_;have m2:∀c,rl c≠.rF x->rl c≠.rP x->M2 c=M1 c:=λc B J=>K2 c (λz=>B oC_) (λz=>J oD!);have qz:=(m2 o O_ O_).trans wx;have d21:=(m2 a1 bT_ bT_).trans d11;have L1:n6_<big:=by have:=hA.l1;unfold big;omega
  have fin:R .non (Az M2 a1 oR!):=by
   have n3:∀c,rl c≠.par->Az M2 a1 oR! c=M2 c:=λc hc=>mup_ne λz=>hc oB_;have aw:∀c,rl c≠.par->rl c≠.rF x->rl c≠.rP x->rl c≠.rF p0->rl c≠.rP p0->Az M2 a1 oR! c=M c:=λc B J h3 h4 h5=>(n3 c B).trans ((m2 c J h3).trans (m1 c h4 h5));refine hR _ (λ_ rows' hg=>⟨a1,a2,a3,a4,a5,a6,Aq k1 i x,k2,k3,k4,k5,k6,?_⟩) (λz=>absurd ⟨hi,hx,hw⟩ z) λc hc hr=>⟨aw c d0_ d0_ d0_ d0_ d0_,hr⟩;have up:∀{x:Nat},x<=hb->x<=hb+20:=λh=>by omega
   have xi:i≠root/\i≠Bi:=⟨(gU!).nn.2.1,(gU!).nn.2.2⟩;refine{hA with ob:=?_,d1:=jZ!,d2:=?_,d3:=?_,d4:=?_,d5:=?_,d6:=?_,p0:=⟨by rw[eH xi.1];exact hA.p0.1,by rw[eH xi.2];exact hA.p0.2⟩,pr:=?_,row:=?_,txt:=?_,num:=?_,l1:=Nat.le_trans dW! (by have:=hA.l1;omega),l2:=up hA.l2,l3:=up hA.l3,l4:=up hA.l4,l5:=up hA.l5,l6:=up hA.l6,lr:=?_,lt:=λy hy=>up (hA.lt y hy),live:=?_}
   .rw[aw o O_ O_ O_ O_ O_];exact hA.ob
   .rw[aw a2 av_ av_ av_ av_ av_];exact hA.d2
   .rw[aw a3 aT_ aT_ aT_ aT_ aT_];exact hA.d3
   .rw[aw a4 aU! aU! aU! aU! aU!];exact hA.d4
   .rw[aw a5 aM_ aM_ aM_ aM_ aM_];exact hA.d5
   .rw[aw a6 aw! aw! aw! aw! aw!];exact hA.d6
   .intro a b hm;obtain z|z:=hg.mem.mp hm
    .cases z;rw[dQ]
    .obtain⟨z1,z2⟩:=kG.mp z;rw[eH (Ne.symm z2)];exact hA.pr a b z1
   .intro y hy;by_cases e:x=y
    .subst e;refine wt!;rw[wS!];exact R2.keep (n3 r dk_) (n3 f d1!) (n3 p d1_)
    .rw[hg.chl_ne e];by_cases e':p0=y
     .subst e';refine⟨r0,f0,q0,u1,?_,u3,u4,u5⟩;exact R1.keep ((n3 r0 ak_).trans (m2 r0 ak_ ak_)) ((n3 f0 aD_).trans (m2 f0 (by rw[u4];simpa using Ne.symm e) aD_)) ((n3 q0 aE!).trans (m2 q0 aE! (by rw[u5];simpa using Ne.symm e)))
     .obtain⟨r',f',p',v1,v2,v3,v4,v5⟩:=hA.row y hy;refine⟨r',f',p',v1,?_,v3,v4,v5⟩;rw[zY λz=>e' xb!];exact v2.keep xh_ (aw f' cD_ (by rw[v4];simpa using Ne.symm e) cD_ (by rw[v4];simpa using Ne.symm e') cD_) (aw p' cE! cE! (by rw[v5];simpa using Ne.symm e) cE! (by rw[v5];simpa using Ne.symm e'))
   .intro y hy;obtain⟨r',f',p',v1,v2,v3,v4,v5⟩:=hA.txt y hy;exact⟨r',f',p',v1,v2.keep xh_ (aw f' cD_ cD_ cD_ cD_ cD_) (aw p' cE! cE! cE! cE! cE!),v3,v4,v5⟩
   .intro y hy;obtain⟨q,v1,v2,v3⟩:=hA.num y hy;exact⟨q,v1,(aw q bF_ bF_ bF_ bF_ bF_).trans v2,v3⟩
   .obtain⟨u,v,e,rfl,_⟩:=hg;have b:=(xb_).length_le;rw[e]at b;simp at b ⊢;omega
   .intro c hc;by_cases y0:c=a1
    .rw[y0,mup_same];simp
    .rw[mup_ne y0];by_cases y1:c=f
     .rw[y1];exact R2.live.2.1
     .by_cases y2:c=p
      .rw[y2];exact R2.live.2.2
      .rw[K2 c y1 y2];by_cases y3:c=f0
       .rw[y3];exact R1.live.2.1
       .by_cases y4:c=q0
        .rw[y4];exact R1.live.2.2
        .rw[K1 c y3 y4];exact hA.live c hc
  simpa[Cd,wl,Aw,Ic,El,Aa,qz,oF1,Ki,d21,cu,L1]using fin
end
end K25
namespace K25
open PySem L2 DL
nonrec def Ay.nd(t:Ay):Prop:=[t.A0,t.A5,t.A6,t.A7,t.A8,t.A9,t.B0,t.B1,t.B2].Nodup
def La(c:Nat):Bool:=decide (32<=c)&&decide (c<=126)&&!(c==37)
def Th(s:Str):Bool:=decide (aw_<=1000)&&s.cps.toList.all La
def c7v(a c:Nat):Ra ⟨#[a]⟩ aC!=decide (a<=c):=by
 unfold Ra;simp only[List.cons_lt_cons_iff,List.not_lt_nil,and_false,KL];by_cases h:c<a
 .simp[h]
 .simp[h];omega
def b4e:(" ":Str)=⟨#[32]⟩:=by decide+kernel
def b4d:("~":Str)=⟨#[126]⟩:=by decide+kernel
def c8n(c:Nat):Gm [gA!]=some (.bl (La c)):=by
 push_cast[Gm,Rn,Xo,b4e,b4d,c7v,Str.length,La]
 by_cases B:32<=c<;>by_cases J:c<=126<;>simp[B,J];rw[KF];simp;omega
def wS(ρ:Ad)(oy:ρ=bG!):∀(cs:i_),cs.all La=true->
  Ei N_ ai! iH! ρ (cs.map λc=>.str aC!)=some kj!
 |[],_=>rfl
 |c::cs,h=>by
  rw[MM,HZ]at h;have ih:=wS ρ oy cs h.2;subst oy;simp only[GY,Ei,ih];simp[Bl,f1,Ab,Aa,Af,c8n,h.1]
def wX:∀(cs:i_),Ke xo!=some xo_
 |[]=>rfl
 |c::cs=>by simp only[GY,Ke,wX cs,NX]
def a3o(a b:Str):Dy (.str a) (.str b)=fJ!:=by unfold Dy;rfl
def c4d(a b:Int):Dy (.int a) (.int b)=fJ!:=by unfold Dy;rfl
def a7r(s:Str):∀xs:List Str,xp!=xs.any (·==s)
 |[]=>rfl
 |x::xs=>by rw[GY,LH,LH,a7r s xs,a3o]
def c3p(s:Str)(xs:n!):Qp false aV! (.tup kk_)=some (.bl (xs.any (·==s))):=by
 have h:(kk_).all Kd=true:=by simp[JR,Kd]
 show(if Kd aV!&&(kk_).all Kd then some (D.bl xp!)else none)=_;rw[h,a7r];rfl
def sM:(Str.ofString "put"==Str.ofString "undo")=false:=by decide+kernel
def sN:(Str.ofString "put"==Str.ofString "redo")=false:=by decide+kernel
def iS:(Str.ofString "move"==Str.ofString "put")=false:=by decide+kernel
def a2s:(Str.ofString "move"==Str.ofString "undo")=false:=by decide+kernel
def a2t:(Str.ofString "move"==Str.ofString "redo")=false:=by decide+kernel
def iT:(Str.ofString "drop"==Str.ofString "put")=false:=by decide+kernel
def hJ:(Str.ofString "drop"==Str.ofString "move")=false:=by decide+kernel
def a2u:(Str.ofString "drop"==Str.ofString "undo")=false:=by decide+kernel
def a2v:(Str.ofString "drop"==Str.ofString "redo")=false:=by decide+kernel
def kL:(Str.ofString "write"==Str.ofString "put")=false:=by decide+kernel
def jD:(Str.ofString "write"==Str.ofString "move")=false:=by decide+kernel
def jE:(Str.ofString "write"==Str.ofString "drop")=false:=by decide+kernel
def a2q:(Str.ofString "write"==Str.ofString "cut")=false:=by decide+kernel
def a2p:(Str.ofString "write"==Str.ofString "set")=false:=by decide+kernel
def yB:(Str.ofString "write"==Str.ofString "undo")=false:=by decide+kernel
def yC:(Str.ofString "write"==Str.ofString "redo")=false:=by decide+kernel
def nW:(Str.ofString "cut"==Str.ofString "put")=false:=by decide+kernel
def lV:(Str.ofString "cut"==Str.ofString "move")=false:=by decide+kernel
def lW:(Str.ofString "cut"==Str.ofString "drop")=false:=by decide+kernel
def kN:(Str.ofString "cut"==Str.ofString "write")=false:=by decide+kernel
def a9n:(Str.ofString "cut"==Str.ofString "set")=false:=by decide+kernel
def a6h:(Str.ofString "cut"==Str.ofString "undo")=false:=by decide+kernel
def a6i:(Str.ofString "cut"==Str.ofString "redo")=false:=by decide+kernel
def nU:(Str.ofString "set"==Str.ofString "put")=false:=by decide+kernel
def lT:(Str.ofString "set"==Str.ofString "move")=false:=by decide+kernel
def lU:(Str.ofString "set"==Str.ofString "drop")=false:=by decide+kernel
def kM:(Str.ofString "set"==Str.ofString "write")=false:=by decide+kernel
def nV:(Str.ofString "set"==Str.ofString "cut")=false:=by decide+kernel
def a6e:(Str.ofString "set"==Str.ofString "undo")=false:=by decide+kernel
def a6f:(Str.ofString "set"==Str.ofString "redo")=false:=by decide+kernel
def sI:(Str.ofString "undo"==Str.ofString "put")=false:=by decide+kernel
def pG:(Str.ofString "undo"==Str.ofString "move")=false:=by decide+kernel
def pH:(Str.ofString "undo"==Str.ofString "drop")=false:=by decide+kernel
def nG:(Str.ofString "undo"==Str.ofString "write")=false:=by decide+kernel
def sJ:(Str.ofString "undo"==Str.ofString "cut")=false:=by decide+kernel
def a6d:(Str.ofString "undo"==Str.ofString "set")=false:=by decide+kernel
def sK:(Str.ofString "redo"==Str.ofString "put")=false:=by decide+kernel
def pJ:(Str.ofString "redo"==Str.ofString "move")=false:=by decide+kernel
def pK:(Str.ofString "redo"==Str.ofString "drop")=false:=by decide+kernel
def nH:(Str.ofString "redo"==Str.ofString "write")=false:=by decide+kernel
def sL:(Str.ofString "redo"==Str.ofString "cut")=false:=by decide+kernel
def a6g:(Str.ofString "redo"==Str.ofString "set")=false:=by decide+kernel
def a2r:(Str.ofString "redo"==Str.ofString "undo")=false:=by decide+kernel
def gG(a b:Str):Bb (.str a) (.str b)=some (.bl fJ!):=by simp[Bb,Bd,Gs,a3o]
def in2(k a b:Str):Qp false V! oS!=some (.bl oS_):=by have:=c3p k al!;simpa only[GY,MC,LH,List.any_nil,Bool.or_false]using this
def a3n(a b:Int):Bb (.int a) (.int b)=some (.bl fJ!):=by simp[Bb,Bd,Gs,c4d]
abbrev scr(ns:z!):D:=.lst jo_
def a4a{α:Type}{xs:H_}{i:Int}(h0:0<=i)(B:i<i!):∃x,Da xs i=some x/\x∈xs:=by refine⟨xs[i.toNat]' a!,?_,JY _⟩;unfold Da Dx;rw[HB h0,HB B];simp
def c4u(ns:z!)(k:Int):∃c,No [cF!,g8_]=some (.int c):=by
 cases ns with
 |nil=>exact⟨0,by push_cast[No,Rz,scr,Vc]⟩
 |cons n r=>
  have hp:(0:Int)<g9!+1:=by omega
  obtain⟨x,e,hx⟩:=a4a (xs:=xz!) (i:=k%(g9!+1)) (LA _ a!) (by simpa using JW k hp);obtain⟨c,_,rfl⟩:=HK.mp hx;refine⟨c,?_⟩;have e':Ai (.lst xz!) (.int (k%(g9!+1)))=some (.int c):=e;simp only[GY]at e';simp[No,Rz,scr,Bw,Be,sSeq,Fs,Cn,Aa,Vc,f2,f1,Ab,Af,Bk,Bz,Dw,hp,e']
def gW(ns:z!){k:Int}:∃m,Bt [cF!,g8_]=some cB_/\0<=m/\m<4294967231:=by obtain⟨c,hc⟩:=c4u ns k;refine⟨_,by push_cast[Bt,Wh,hc,Ti];rfl,LA _ d!,JW _ d!⟩
def iQ{n:Int}(h:xs≠[]):∃x,Cw [.lst xs,aM!]=some x/\x∈xs:=by
 have hl:0<i!:=List.length_pos_iff.mpr h;have hp:(0:Int)<ja_:=by omega
 obtain⟨x,e,hx⟩:=a4a (xs:=xs) (i:=n%ja_) (LA _ a!) (JW n hp);refine⟨x,?_,hx⟩;have e':Ai N! (.int (n%ja_))=some x:=e;simp[Cw,Ut,Bw,Be,Aa,f2,f1,Ab,Af,Bk,Bz,Dw,hp,e',hl]
def lQ{bnd:ag!}{q:aD!}(P:Nat->Ad->Prop):∀(ds:a_) (i:Nat) (ρ:Ad),P i ρ->
  (∀(j:Nat) (d:D) (ρ:Ad),ds[j]?=some d->P (i+j) ρ->∃al bh,bnd d ρ=some al/\q al=some (.nx bh)/\P (i+j+1) bh)->
  ∃ρ',Ql bnd q ds ρ=some cl_/\P (i+f_) ρ'
 |[],i,ρ,h,_=>⟨ρ,rfl,h⟩
 |d::ds,i,ρ,h,hs=>by
  obtain⟨al,bh,e1,e2,J⟩:=hs 0 d ρ rfl h;obtain⟨ρ',e3,h3⟩:=lQ P ds aY_ bh J λj d ρ hd hp=>by
   have:=hs (j+1) d ρ (by simpa using hd) (by rw[show i+(j+1)=i+1+j by omega];exact hp);rw[show i+(j+1)+1=i+1+j+1 by omega]at this;show"#;"
  refine⟨ρ',?_,by rw[HA,show i+(ds.length+1)=i+1+ds.length by omega];exact h3⟩;simp[Ql,e1,e2,e3]
def jT{bnd:ag!}{ft:aj!}{fe:e_}{ρ:Ad}(R:D->Prop):∀(ds:a_),(∀d∈ds,∃al b,bnd d ρ=some al/\ft al=some b/\(b=true->∃y,fe al=some y/\R y))->
  ∃ys,Ei bnd ft fe ρ ds=some ys/\X_<=f_/\∀y∈ys,R y
 |[],_=>⟨[],rfl,HL _,λy hy=>by cases hy⟩
 |d::ds,h=>by
  obtain⟨al,b,e1,e2,hy⟩:=h d GX;obtain⟨ys,e3,hl,hr⟩:=jT R ds λx hx=>h x cF_
  cases b with
  |false=>exact⟨ys,by simp[Ei,e1,e2,e3],ea_,hr⟩
  |true=>
   obtain⟨y,e4,r4⟩:=hy rfl;refine⟨y::ys,by simp[Ei,e1,e2,e3,e4],ea_,lh_⟩;obtain rfl|hz:=GR.mp hz
   .exact r4
   .exact hr z hz
def sT{bnd:ag!}{fe:e_}{ρ:Ad}:∀{ds ys:a_},Ei bnd ai! fe ρ ds=some ys->X_=f_
 |[],ys,e=>by cases e;rfl
 |d::ds,ys,e=>by
  unfold Ei at e;obtain⟨al,e1,e⟩:=GN.mp e;simp only[LV,IU]at e;obtain⟨y,e3,e⟩:=GN.mp e;obtain⟨zs,e4,rfl⟩:=GU.mp e;simp[sT e4]
def NameG(x:D):Prop:=∃a b,x=.tup vR!/\0<=a/\a<16/\1<=b/\b<=2000
def Cv(x:D):Prop:=x=.str "root"\/x=.str "bin"\/NameG x
def Mb(x:D):Prop:=x=.non\/NameG x
def Wq(x:D):Prop:=∃a b c,x=.tup vR_/\0<=a/\a<16/\1<=b/\b<=2000/\0<=c/\c<=15
def Kf(x:D):Prop:=x=.non\/Wq x
inductive DG:D->Prop
 |put {a b:D}:Cv a->Mb b->DG eb!
 |move {a b c:D}:Cv a->Cv b->Mb c->DG ha!
 |drop {a:D}:Cv a->DG ha_
 |write {a b:D} {s:Str}:Cv a->Kf b->Th s=true->1<=aw_->aw_<=16->DG fi!
 |cut {a:D} {x y z m:Int}:Cv a->Wq d3!->1<=m->z+m<=16->DG eb_
 |set {a:D} {p n:Int}:Cv a->0<=p->p<=3->n.natAbs<10 ^ 60->DG (.tup [kp_,a,.int p,aM!])
 |undo {a:D}:NameG a->DG (.tup [oU_,a])
 |redo {a:D}:NameG a->DG (.tup [.str "redo",a])
def Uf(o:D):Prop:=∃h n tm d,o=.tup [aU_,aM!,.int tm,d]/\0<=h/\h<16/\1<=n/\n<=2000/\DG d
def wP(h:DG d):∃k r,d=.tup dp!/\(k="write"->∃a b s,r=[a,b,d6_]/\aw_<=16):=by
 cases h with
 |write _ _ _ _ h5=>exact⟨_,_,rfl,λ_=>⟨_,_,_,rfl,h5⟩⟩
 |_=>exact⟨_,_,rfl,λz=>absurd z v_⟩
def a6m{ops:a_}(h:kq!)(hl:kr!):∃its,Ib [.lst ops]=some hb_/\3<=dS_/\dS_<=200/\∀x∈its,Cv x:=by
 obtain⟨ys,e,l,hr⟩:=jT (ρ:=bG!) (bnd:=Bl 0) (ft:=fT nm_) (fe:=As gx_)
  (xE_) ops (by
   intro o ho;obtain⟨h',n,tm,d,rfl,b1,b2,b3,b4,hd⟩:=h o ho;obtain⟨k,r,rfl,_⟩:=wP hd;refine⟨_,_,rfl,by push_cast[gG];rfl,λ_=>⟨_,by push_cast,xF!⟩⟩)
 have hc:Ep 1 [] eN! N_ (fT nm_) (As gx_) [ax!]=some aR_:=by
  show xF_;rw[dp_,e];rfl
 have a1:Al (.lst [kr_]) aR_=some xG!:=by
  show(if 1+X_<=big then some (D.lst ([kr_]++ys))else none)=_;rw[dp_];rfl
 have a2:Al xG! (.lst ks_)=some (.lst (.str "root"::(ys++ks_))):=by
  show(if X_+1+2<=big then some (D.lst (.str "root"::ys++ks_))else none)=_;rw[dp_];rfl
 refine⟨.str "root"::(ys++ks_),by simp[Ib,Te,Bw,Be,f2,fC,hc,a1,a2],F!,ea_,aS_⟩;simp at hx;obtain rfl|hx|rfl|rfl:=hx
 .exact cT!
 .exact .inr (.inr (hr x hx))
 .exact .inr aF_
 .exact .inr (.inr ⟨9,9,rfl,R!,R!,R!,R!⟩)
def b5u{ops:a_}(h:kq!)(hl:kr!):∃ss,Lj [.lst ops]=some (.lst ss)/\ss≠[]/\∀x∈ss,Kf x:=by
 let P:Nat->Ad->Prop:=λi ρ=>∃c7 x y,ρ=[ax!,oY!,x,y]/\c7≠[]/\oZ!<=2+16*i/\∀z∈c7,Kf z
 obtain⟨ρ',e,c7,x,y,rfl,f0,_,hf⟩:=lQ (bnd:=Bq 2) (q:=Fs tX_ tZ! Cn)
  P ops 0 [ax!,some (.lst [.non,.tup [.int 9,.int 9,.int 3]]),none,none] ⟨_,_,_,rfl,by simp,by simp,by
   intro z hz;simp at hz;obtain rfl|rfl:=hz
   .exact cT!
   .exact .inr ⟨9,9,3,rfl,R!,R!,R!,R!,R!,R!⟩⟩ (by
  rintro j d ρ hd ⟨c7,x,y,rfl,f0,fl,hf⟩;have hj:j<kq_:=(HC.mp hd).1;obtain⟨h',n,tm,d',rfl,b1,b2,b3,b4,hdg⟩:=h d (MU hd);obtain⟨k,r,rfl,hw⟩:=wP hdg;by_cases hk:k="write"
  .subst hk;obtain⟨a,b,s,rfl,s16⟩:=hw rfl;have vb:aw_<=big:=by unfold big;omega
   let P2:Nat->Ad->Prop:=λi ρ=>∃c7 y,ρ=xJ!/\c7≠[]/\oZ!<=2+16*(0+j)+i/\∀z∈c7,Kf z
   obtain⟨bh,e2,WJ,y2,rfl,f20,f2l,zd⟩:=lQ (bnd:=Bq 3) (q:=Ku 1 tY_) P2 (Cq aw_) 0
    (xJ!) ⟨c7,y,rfl,f0,fl,hf⟩ (by
     rintro i d ρ hd ⟨c7,y,rfl,f0,fl,hf⟩;unfold Cq at hd;rw[IB]at hd;obtain⟨i',df,rfl⟩:=GU.mp hd;obtain⟨ao,he⟩:=HC.mp df;rw[NJ]at he;subst he;rw[KQ]at ao;have Y:oZ!<big:=by unfold big;omega
     refine⟨_,_,rfl,by push_cast[Ku,Y];rfl,c7++[.tup [.int h',aM!,.int (i:Nat)]],_,rfl,F!,ea_,lh_⟩;obtain hz|hz:=GZ.mp hz
     .exact hf z hz
     .simp at hz;subst hz;exact .inr ⟨_,_,_,rfl,b1,b2,b3,b4,u!,u!⟩)
   have hr:-1000<=kt!/\kt!<=100000:=by omega
   refine⟨_,[ax!,some (.lst WJ),xI!,y2],rfl,by push_cast[gG,Ng,Fc,vb,hr,e2],WJ,_,_,rfl,f20,?_,zd⟩;simp[Cq]at f2l;omega
  .refine⟨_,[ax!,oY!,some (.tup [.int h',aM!,.int tm,.tup dp!]),y],rfl,by push_cast[gG,hk],c7,_,_,rfl,f0,u!,hf⟩)
 refine⟨c7,?_,f0,hf⟩;simp[Lj,Tc,Ir,Bw,sSeq,Ab,Af,fC,Ng,Eo,Aa,Be,e]
abbrev letters:Str:=" abcXYZ.,;!019~[]\\\"'|{}<>@#$&*()-+/=_^:?`"
def sF:o1_=41:=by decide+kernel
def a9m:letters.cps.toList.all La=true:=by decide+kernel
def b4x:(kt_).cps=#[]:=by decide+kernel
def b4w:(kt_).length=0:=by decide+kernel
def Qk(c:Nat):D:=.str aC!
def a4k:∀(xs:a_),(∀x∈xs,∃c,x=Qk c/\La c=true)->∃cs:List Nat,xs=cs.map Qk/\cs.all La=true
 |[],_=>⟨[],rfl,rfl⟩
 |x::xs,h=>by
  obtain⟨c,rfl,hc⟩:=h x GX;obtain⟨cs,rfl,qm⟩:=a4k xs λy hy=>h y cw_
  exact⟨c::cs,rfl,by simp only[MM,hc,qm,LS]⟩
def yM:∀(cs:i_),So o2!=some ku!
 |[]=>rfl
 |c::cs=>by simp only[GY,Qk,So];rw[show List.map Qk cs=List.map Qk cs from rfl,yM cs];rfl
def a6w:∀(cs:i_) (acc:Array Nat),(ku!).foldl (λacc p=>acc++(kt_).cps++p.cps) acc=acc++cs.toArray
 |[],acc=>by simp
 |c::cs,acc=>by
  rw[GY,List.foldl_cons,a6w cs,b4x];simp
def b9f(cs:i_):Txt.join kt_ ku!=o3!:=by
 unfold Txt.join Builtin.Str.glued;cases cs with
 |nil=>rfl
 |cons c cs=>
  simp only[GY,List.drop_succ_cons,List.drop_zero,List.headD_cons];rw[a6w];simp
def b0p:∀(cs:i_),((ku!).map (·.length)).sum=cC_
 |[]=>rfl
 |c::cs=>by
  have ih:=b0p cs;simp only[GY,List.sum_cons,HA];rw[ih];show 1+cC_=_;omega
def c1l{n most:Int}(B:1<=most)(h16:most<=16):∃s,Nl [aM!,.int most]=some aV!/\Th s=true/\1<=aw_/\aw_<=16:=by
 have WH:0<=n%most:=LA _ a!;have xq:n%most<most:=JW _ a!;obtain⟨N,hN⟩:∃N:Nat,(N:Int)=1+n%most:=⟨(1+n%most).toNat,u!⟩;have hN1:1<=N:=by omega
 have hN2:N<=16:=by omega
 obtain⟨ys,e,l,hr⟩:=jT (ρ:=xP!) (bnd:=Bl 0) (ft:=kv!) (fe:=f2 Ai v! t0_)
  (λy=>∃c,y=Qk c/\La c=true) fk! (by
   intro d hd;unfold Cq at hd;obtain⟨i,hi,rfl⟩:=HK.mp hd;have df:=NP.mp hi;have z1:(0:Int)<1+3*(i:Int):=by omega
   have z2:1+3*(i:Int)<1073741824:=by omega
   have ar:o1_<=big:=by rw[sF];decide
   have hsz:((xP_:Nat):Int)=41:=by
    have:xP_=41:=by rw[<-sF];simp[Str.length]
    omega
   obtain⟨c,ec,hc⟩:=a4a (xs:=letters.cps.toList) (i:=n / (1+3*(i:Int))%41) (LA _ d!) (by rw[hsz];exact JW _ d!);have hix:Ai o3_ (.int (n / (1+3*(i:Int))%41))=some (Qk c):=by
    show(if o1_<=big then(Da letters.cps.toList _).map _ else none)=_;rw[HB ar,ec];rfl
   refine⟨_,true,rfl,rfl,λ_=>⟨Qk c,?_,c,rfl,JR.mp a9m c hc⟩⟩;simp[Bl,f2,Aa,fC,Al,Ef,Dw,Ti,Cg,Bz,z1,z2,hix])
 have l2:=sT e;obtain⟨cs,rfl,qm⟩:=a4k ys hr;have bz:cC_=N:=by simpa[Cq]using l2
 have hrng:-1000<=(N:Int)/\(N:Int)<=100000:=by omega
 have hc:Ep 1 [0,2] (Fc nn_) N_ ai! t1_ xS_=some (.lst o2!):=by
  have hi:Fc nn_ xS_=some fk!:=by
   simp[Fc,f2,fC,Aa,Bz,Dw,show 0<most by omega,Al,<-hN,hrng]
  unfold Ep;rw[hi];show(if(fk!).length<=big then Option.map D.lst (Ei _ _ _ xP! fk!)else none)=_;rw[HB (by simp[Cq,big];omega),e];rfl
 have hj:Uv (.str "") (.lst o2!)=some (.str o3!):=by
  unfold Uv;simp only[yM,LV,b0p,HG,b4w,Nat.mul_zero,QP,b9f];rw[dp_]
 refine⟨o3!,?_,?_,?_,?_⟩
 .simp[Nl,Ur,Bw,sSeq,Bv,fC,Be,Wl,hc,hj]
 .simp only[Th,Str.length,GW,qm,Bool.and_true,IF];omega
 .simp only[Str.length,GW];omega
 .simp only[Str.length,GW];omega
def GJ:Ad->Option Fl:=t3_
def GI:Ad->Option Fl:=t4!
def GH:Ad->Option Fl:=t5!
def GG:Ad->Option Fl:=t6!
def FK:Ad->Option Fl:=t6_
def GF:Ad->Option Fl:=t7!
def GE:Ad->Option Fl:=t8!
def GC:Ad->Option Fl:=t9_
def GB:Ad->Option Fl:=ua_
def GA:Ad->Option Fl:=ub_
def BO:Ad->Option Fl:=ue!
def BN:Ad->Option Fl:=ue_
def Zn:Ad->Option Fl:=ug!
def Xr:Ad->Option Fl:=uj!
nonrec def dq14:Ad->Option Fl:=uk_
nonrec def dq15:Ad->Option Fl:=ul!
def CN:Ad->Option Fl:=(sSeq GC (sSeq GB (sSeq GA (sSeq BO xT_))))
def b3m:Pg=(sSeq GJ (sSeq GI (sSeq GH (sSeq GG (sSeq FK (sSeq GF (sSeq GE CN))))))):=rfl
def bB{q1 q2:aD!}{ρ ρ':Ad}(h:q1 ρ=some cl_):sSeq q1 q2 ρ=q2 ρ':=by simp[sSeq,h]
def nJ{q1 q2:aD!}{ρ:Ad}(h:q1 ρ=some a6_):sSeq q1 q2 ρ=some a6_:=by simp[sSeq,h]
def eV{f:e_}{ρ:Ad}{i:Nat}(h:cz_):Bv i f ρ=some (.nx bR_):=by simp[Bv,h]
abbrev kinds:List D:=[ko_,ko_,ko_,g9_,g9_,kp!,kp!,.str "cut",kp_,oU_,.str "redo",.str "drop"]
def KindOk(k:Str):Prop:=k="put"\/k="move"\/k="write"\/k="cut"\/k="set"\/k="undo"\/k="redo"\/k="drop"
def a7l{α:Type}{xs:H_}{lo hi:a2_}{x:α}(h:x∈Db xs lo hi):x∈xs:=List.mem_of_mem_drop (List.mem_of_mem_take h)
def Qi:D->D
 |.str _=>.non
 |d=>d
def a6n(h:Cv d\/d=.non):(Fk "str" d=some true/\Qi d=.non)\/(Fk "str" d=some false/\Qi d=d/\Mb d):=by
 rcases h with(rfl|rfl|⟨a,b,rfl,h⟩)|rfl
 .exact .inl bL_
 .exact .inl bL_
 .exact .inr ⟨rfl,rfl,.inr ⟨a,b,rfl,h⟩⟩
 .exact .inr ⟨rfl,rfl,cT!⟩
def c8v(ns:z!){base most:Int}{ops:a_}(h:kq!)(hl:kr!):∃m0 its item jg k,0<=m0/\its≠[]/\(∀x∈its,Cv x)/\Cv item/\Mb jg/\KindOk k/\
  Pg xU_=CN o4!:=by
 obtain⟨m0,e0,p0,_⟩:=gW ns (k:=base);obtain⟨m1,e1,_,_⟩:=gW ns (k:=base+1);obtain⟨m2,e2,_,_⟩:=gW ns (k:=base+2);obtain⟨its,ei,i3,i200,pj⟩:=a6m h hl;have xr:its≠[]:=by intro z;subst z;simp at i3
 have rl:xW!≠[]:=by
  intro z;have z2:=congrArg List.length z;simp[Db,HT.sIx]at z2;omega
 have bz:(o4_).length+(xW_).length<=big:=by
  simp[Db,HT.sIx,big];omega
 obtain⟨item,ep,mp⟩:=iQ (n:=m1) rl;have pp:Cv item:=by
  obtain z|z:=GZ.mp mp
  .exact pj _ (a7l z)
  .exact pj _ (a7l z)
 have a1:Al (.lst o4_) (.lst xW_)=some (.lst xW!):=by
  show he_;rw[HB bz]
 have a2:Al hb_ (.lst jd!)=some (.lst (its++jd!)):=by
  show(if dS_+2<=big then _ else none)=_;rw[dp_]
 obtain⟨oth,eo,mo⟩:=iQ (n:=m2) (xs:=its++jd!) c_;have vj:Cv oth\/oth=.non:=by
  obtain z|z:=GZ.mp mo
  .exact .inl (pj _ z)
  .simp at z;exact .inr z
 have ny:Mb (Qi oth):=by
  obtain⟨_,z⟩|⟨_,z,y⟩:=a6n vj
  .rw[z];exact .inl rfl
  .rw[z];exact y
 obtain⟨kd,ek,mk⟩:=a4a (xs:=kinds) (i:=m0%12) (LA _ d!) (by show _<(12:Int);exact JW _ d!);obtain⟨k,rfl,hk⟩:∃k,kd=.str k/\KindOk k:=by
  simp[kinds]at mk;unfold KindOk;obtain rfl|rfl|rfl|rfl|rfl|rfl|rfl|rfl:=mk<;>exact⟨_,rfl,F!⟩
 have ek':Ai (.lst kinds) (.int (m0%12))=some V!:=ek;refine⟨m0,its,item,Qi oth,k,p0,xr,pj,pp,ny,hk,?_⟩;rw[b3m];rw[bB (ρ':=[H!,aq_,ax!,bl!,bV!,none,none,none,none,none,none,none]) (eV (by simp[f1,Ab,Aa,Af,e0]))];rw[bB (ρ':=[H!,aq_,ax!,bl!,bV!,bG_,none,none,none,none,none,none]) (eV (by simp[f1,Ab,Aa,Af,ei]))];rw[bB (ρ':=[H!,aq_,ax!,bl!,bV!,bG_,cG_,none,none,none,none,none]) (eV (by
  have b1:Al kw! aI!=some (.int (base+1)):=rfl;simp[f1,Ab,Aa,Af,f2,En,Bg,At,Au,fC,a1,b1,e1,ep]))]
 rw[bB (ρ':=[H!,aq_,ax!,bl!,bV!,bG_,cG_,some oth,none,none,none,none]) (eV (by
  have b1:Al kw! bs!=some (.int (base+2)):=rfl;simp[f1,Ab,Aa,Af,f2,fC,a2,b1,e2,eo]))]
 rw[bB (ρ':=[H!,aq_,ax!,bl!,bV!,bG_,cG_,o6!,none,none,none,none]) (by
  obtain⟨z1,z2⟩|⟨z1,z2,_⟩:=a6n vj<;>simp[FK,Fs,fT,Dj,Aa,z1,z2,Cn,Bv,fC])]
 rw[bB (ρ':=[H!,aq_,ax!,bl!,bV!,bG_,cG_,o6!,fk_,none,none,none]) (eV gF!)];rw[bB (ρ':=[H!,aq_,ax!,bl!,bV!,bG_,cG_,o6!,fk_,some V!,none,none]) (eV (by simp[f2,Aa,fC,Bz,Dw,ek']))]
section
variable{ρ:Ad}
def a9q{c:aj!}{a b:aD!}(h:c ρ=some true):Fs c a b ρ=a ρ:=by unfold Fs;rw[h];rfl
def gP{c:aj!}{a:aD!}(h:c ρ=some false):Fs c a Cn ρ=some ap_:=by unfold Fs;rw[h];rfl
def pT{i:Nat}{b:Bool}(h:Aa i ρ=some V!)(e:(k==s)=b):fT (f2 Bb (Aa i) (fC aV!)) ρ=some b:=by unfold fT f2 fC;rw[h];show(Bb V! aV!).bind _=_;rw[gG,e];rfl
def bV{f:e_}{fs:ao!}(h:cz_)(g:hf!):Ab f fs ρ=some dV_:=by unfold Ab;rw[h,g];rfl
def nM{fs:ao!}{ds:a_}(h:hf!)(hl:xY!):Be (As fs) ρ=some (.rt dg!):=by unfold Be As;rw[h];show Option.map _ xY_=_;rw[x0!];rfl
def iV{g:ac_}{fs:ao!}(h:hf!)(e:g ds=some d):f1 g fs ρ=some d:=by unfold f1;rw[h];exact e
def dN{g:a4_}{f1 f3:e_}(h:f1 ρ=some x)(k:f3 ρ=some y)(e:g x y=some d):f2 g f1 f3 ρ=some d:=by unfold f2;rw[h,k];exact e
def a5v{ns:z!}{base j m:Int}(h:Aa 0 ρ=some he!)(g:Aa 1 ρ=some kw!)(e:Bt [cF!,.int (base+j)]=some cB_):f1 Bt (Ab l_ (Ab (f2 Al w! (fC dl_)) Af)) ρ=some cB_:=
 iV (bV h (bV (dN g rfl rfl) rfl)) e
def a5g{m:Int}{f h:e_}(a:f ρ=some N!)(b:h ρ=some cB_)(e:Cw [.lst xs,d4!]=some p):f1 Cw (Ab f (Ab h Af)) ρ=some p:=
 iV (bV a (bV b rfl)) e
end
def vL{i j:Int}(h:0<j):Bz bp_ dl_=some (.int (i%j)):=by show(if decide (0<j)=true then _ else _)=_;rw[HB (HY h)]
def c4j(ns:z!){base most:Int}{ops:a_}(h:kq!)(hl:kr!)(xq:1<=most)(hm16:most<=16):∃d,Jr x2!=some d/\DG d:=by
 obtain⟨m0,its,item,jg,k,p0,xr,pj,pp,vj,hk,hA⟩:=c8v ns (base:=base) (most:=most) h hl;have fin:∀d,CN o4!=some a6_->Jr x2!=some d:=λd e=>by
  unfold Jr Bw;rw[gF_];show(match Pg xU_ with|some (.rt d)=>some d|some (.nx _)=>some .non|none=>none)=_;rw[hA,e]
 clear hA;obtain⟨m1,e1,_,_⟩:=gW ns (k:=base+1);obtain⟨m3,e3,_,_⟩:=gW ns (k:=base+3);obtain⟨m4,e4,_,_⟩:=gW ns (k:=base+4);obtain⟨m5,e5,_,_⟩:=gW ns (k:=base+5);obtain⟨p1,u6,RK⟩:=iQ (n:=m1) xr;obtain⟨p3,ep3,mp3⟩:=iQ (n:=m3) xr;obtain⟨ss,es,RL,hss⟩:=b5u h hl;obtain⟨sg,eg,mg⟩:=iQ (n:=m4) RL;have WK:=hss _ mg;obtain⟨tx,et,ht1,xt,ht2⟩:=c1l (n:=m5) xq hm16;have vk:∀{k:Str},BO o4!=some (.nx o9!):=
  eV (iV (bV (iV fm! es) (bV (a5v rfl rfl e4) rfl)) eg)
 have WL:∀{k:Str},x3_=true->Xr o9!=some (.rt x4_):=λ{k} e=>
  (a9q (by unfold fT;rw[x5_,e];rfl)).trans (nM rfl rfl)
 have WM:DG x4_:=.set pp a! a! a!;obtain⟨nm,nn,hun⟩:∃nm,NameG nm/\∀{k:Str},("put"==k)=false->sSeq dq14 dq15 [some (scr ns),some (.int base),some (.lst ops),some (.int most),some (.int m0),some (.lst its),some item,some jg,some (.lst kinds),some (.str k),some sg,none]=some (.rt (.tup [.str k,nm])):=by
  obtain⟨ys,e,l,hr⟩:=jT (ρ:=bG!) (bnd:=Bl 0) (ft:=kv!) (fe:=As gx_)
   (xE_) ops (by
    intro o ho;obtain⟨h',n,tm,d,rfl,b1,b2,b3,b4,_⟩:=h o ho;exact⟨_,true,rfl,rfl,λ_=>⟨_,rfl,xF!⟩⟩)
  have a1:Al aR_ (.lst pa!)=some (.lst (ys++pa!)):=by
   show(if X_+1<=big then _ else none)=_;rw[dp_]
  obtain⟨nm,en,mn⟩:=iQ (n:=m1) (xs:=ys++pa!) c_;refine⟨nm,?_,λ{k} _=>(bB (eV (dN ?_ rfl a1))).trans (nM (bV rfl (bV (a5g rfl x6_ en) rfl)) rfl)⟩
  .obtain z|z:=GZ.mp mn
   .exact hr _ z
   .simp at z;subst z;exact⟨_,_,rfl,R!,R!,u!,u!⟩
  .show xF_;rw[dp_,e];rfl
 have xu:∀{k:Str},("put"==k)=false->(k=="write")=false->(k=="cut")=false->x3_=false->(xT_) o9!=some (.rt (.tup [.str k,nm])):=λ{k} e0 w c s=>
  (bB (gP (pT rfl w))).trans ((bB (gP (by unfold Cp;rw[pT rfl c];rfl))).trans ((bB (gP (by unfold fT;rw[x5_,s];rfl))).trans (hun e0)))
 unfold KindOk at hk;obtain rfl|rfl|rfl|rfl|rfl|rfl|rfl|rfl:=hk
 .exact⟨_,fin _ (nJ ((kz!).trans (nM (bV rfl (bV (a5g rfl x6_ u6) rfl)) rfl))),.put (pj _ RK) vj⟩
 .exact⟨_,fin _ ((bB (gP (pT rfl iS))).trans (nJ ((kz!).trans (nM (bV rfl (bV rfl (bV (a5g rfl (a5v rfl rfl e3) ep3) rfl))) rfl)))),.move pp (pj _ mp3) vj⟩
 all_goals first|(refine⟨_,fin _ ((bB (gP (pT rfl iT))).trans ((bB (gP (pT rfl hJ))).trans (nJ ((kz!).trans (nM rfl rfl))))),.drop pp⟩;done)|skip
 .exact⟨_,fin _ ((bB (gP (pT rfl kL))).trans ((bB (gP (pT rfl jD))).trans ((bB (gP (pT rfl jE))).trans ((hg_).trans
   (nJ ((kz!).trans (nM (bV rfl (bV rfl (bV rfl (bV (iV (bV (a5v rfl rfl e5) rfl) et) rfl)))) rfl))))))),.write pp WK ht1 xt ht2⟩
 .have go:CN [H!,aq_,ax!,bl!,bV!,bG_,cG_,kw_,fk_,some dJ!,none,none]=sSeq Zn xT! [H!,aq_,ax!,bl!,bV!,bG_,cG_,kw_,fk_,some dJ!,some sg,none]:=(bB (gP (pT rfl nW))).trans ((bB (gP (pT rfl lV))).trans ((bB (gP (pT rfl lW))).trans ((hg_).trans (bB (gP (pT rfl kN))))));obtain rfl|⟨a,b,c,rfl,B,J,h3,h4,c0,c15⟩:=WK
  .exact⟨_,fin _ (go.trans ((bB (gP x9_)).trans (nJ (WL rfl)))),WM⟩
  .have hc:0<16 - c:=by omega
   have q1:0<=m0 / 12%(16 - c):=LA _ a!;have q2:m0 / 12%(16 - c)<16 - c:=JW _ hc;exact⟨_,fin _ (go.trans (nJ ((a9q x9_).trans (nM (bV rfl (bV rfl (bV rfl (bV (dN rfl (dN rfl rfl (vL hc)) rfl) rfl)))) rfl)))),.cut pp ⟨a,b,c,rfl,B,J,h3,h4,c0,c15⟩ a! a!⟩
 .exact⟨_,fin _ ((bB (gP (pT rfl nU))).trans ((bB (gP (pT rfl lT))).trans ((bB (gP (pT rfl lU))).trans ((hg_).trans ((bB (gP (pT rfl kM))).trans ((bB (gP (by unfold Cp;rw[pT rfl nV];rfl))).trans (nJ (WL v_)))))))),WM⟩
 .exact⟨_,fin _ ((bB (gP (pT rfl sI))).trans ((bB (gP (pT rfl pG))).trans ((bB (gP (pT rfl pH))).trans ((hg_).trans (xu sM nG sJ v_))))),.undo nn⟩
 .exact⟨_,fin _ ((bB (gP (pT rfl sK))).trans ((bB (gP (pT rfl pJ))).trans ((bB (gP (pT rfl pK))).trans ((hg_).trans (xu sN nH sL v_))))),.redo nn⟩
def fF(h:Cv d):Eg d=true:=by obtain rfl|rfl|⟨a,b,rfl,_⟩:=h<;>simp[Eg,Fa]
def yP(h:Mb d):Eg d=true:=by obtain rfl|⟨a,b,rfl,_⟩:=h<;>simp[Eg,Fa]
def vJ(h:NameG d):Eg d=true:=by obtain⟨a,b,rfl,_⟩:=h;simp[Eg,Fa]
def a8a(h:Kf d):Eg d=true:=by obtain rfl|⟨a,b,c,rfl,_⟩:=h<;>simp[Eg,Fa]
def a9y(h:DG d):Eg d=true:=by
 cases h with
 |put B J=>simp[Eg,Fa,fF B,yP J]
 |move B J h3=>simp[Eg,Fa,fF B,fF J,yP h3]
 |drop B=>simp[Eg,Fa,fF B]
 |write B J=>simp[Eg,Fa,fF B,a8a J]
 |cut B=>simp[Eg,Fa,fF B]
 |set B=>simp[Eg,Fa,fF B]
 |undo B=>simp[Eg,Fa,vJ B]
 |redo B=>simp[Eg,Fa,vJ B]
abbrev Uk:Ad->Option Fl:=(sSeq un_
 (sSeq uo_
 (sSeq up!
 (sSeq uq!
 (sSeq uq_
 ur_)))))
end K25
namespace K25
open PySem L2 DL
open Classical
inductive Sk(W:OW)(n:D):D->OW->Prop
 |put {a b:D} {rows':g!}:Cv a->Mb b->Qt W.rows n do! b rows'->Sk W n eb! bS_
 |mvY {a b c:D} {rows':g!}:Cv a->Cv b->Mb c->yg!->Qt W.rows a b c rows'->Sk W n ha! {W with rows:=rows'}
 |mvN {a b c:D}:Cv a->Cv b->Mb c->¬yg!->Sk W n ha! W
 |drY {a:D} {rows':g!}:Cv a->yg_->Qt W.rows a Bi .non rows'->Sk W n ha_ {W with rows:=rows'}
 |drN {a:D}:Cv a->¬yg_->Sk W n ha_ W
 |wrt {a b:D} {s:Str} {h m:Int}:Cv a->Kf b->aw_<=16->n=.tup cI!->Sk W n fi! (if a∈W.its then setT W a yh! else W)
 |cut {a:D} {x y z m:Int}:Cv a->0<=z->1<=m->z+m<=16->Sk W n (.tup [.str "cut",a,.tup [.int x,.int y,.int z],.int m]) (if a∈W.its then setT W a (Gb ((List.range m.toNat).map λk=>.tup gV_) ar!)else W)
 |set {a:D} {p v:Int}:Cv a->0<=p->p<=3->Sk W n kC_ (if a∈W.its then Sw W a kD! else W)
def cH(h:Cv x):∃k,Dk x=some k:=by
 obtain rfl|rfl|⟨a,b,rfl,_⟩:=h
 .exact I!
 .exact I!
 .exact I!
def uM(h:Mb x):∃k,Dk x=some k:=by
 obtain rfl|⟨a,b,rfl,_⟩:=h
 .exact I!
 .exact I!
def b3d(h:Kf x):∃k,Dk x=some k:=by
 obtain rfl|⟨a,b,c,rfl,_⟩:=h
 .exact I!
 .exact I!
structure Vh(W:OW)(pre:a_):Prop where
 inv:Bu W
 its:∀x∈W.its,x∈pre
 sgs:∀x∈W.its,∀q∈W.txt x,∃h n k,q.1=.tup yh_/\D.tup U!∈pre
section
variable{t:Ay}{M:Mh}{o:xK!}{rl:Addr->Nz}{W W':OW}{hb:Nat}{R:D->Mh->Prop}{pre:List D}
def tK{h n:Int}{s:Str}{q:e8_}(hq:q∈s.cps.toList.zipIdx.map d5!):∃c k:Nat,q=(.tup pd!,.str aC!,true):=by obtain⟨⟨c,k⟩,_,rfl⟩:=HK.mp hq;exact⟨c,k,rfl⟩
def b0t(h n:Int):∀(cs:i_) (k0:Nat),(((yi!).map b_)).Nodup/\∀k:Nat,k<k0->D.tup pd!∉(yi!).map b_
 |[],k0=>by simp
 |c::cs,k0=>by
  obtain⟨B,J⟩:=b0t h n cs (k0+1);refine⟨HH.mpr ⟨J k0 a!,B⟩,λk hk z=>?_⟩;obtain z|z:=GR.mp z
  .simp[sgn]at z;omega
  .exact J k a! z
def b5r{h m:Int}(hs:Sk W pd_ d W')(w:Vh W pre)(hn:yi_):Vh W' yj!:=by
 have keep:∀{V:OW},V.its=W.its->V.txt=W.txt->Bu V->Vh V yj!:=λ{V} e1 e2 wi=>by
  refine⟨wi,aS_,yj_⟩
  .rw[e1]at hx;exact HQ _ (w.its x hx)
  .rw[e1]at hx;rw[e2]at hq;obtain⟨a,b,c,e,hm⟩:=w.sgs x hx q hq;exact⟨a,b,c,e,HQ _ hm⟩
 cases hs with
 |put y1 y2 hg=>
  rename_i a b rows';have ni:D.tup cI!∉W.its:=λz=>hn (w.its _ z);have hp:Ez W do!:=by split;assumption;exact .inr g5_
  have im:∀x,x∈(yk!).its↔x∈W.its\/x=.tup cI!:=λx=>by simp[Hn]
  have tx:∀x,(yk!).txt x=if x=.tup cI! then[]else W.txt x:=λx=>rfl
  refine⟨hg.winv_put w.inv ni bA! hp,aS_,yj_⟩
  .obtain z|rfl:=(e7_).mp hx
   .exact HQ _ (w.its x z)
   .simp
  .rw[tx]at hq;by_cases e:x=.tup cI!
   .rw[HB e]at hq;cases hq
   .rw[GS e]at hq;obtain⟨a,b,c,e',hm⟩:=w.sgs x ((n2_).resolve_right e) q hq;exact⟨a,b,c,e',HQ _ hm⟩
 |mvY _ _ _ hc hg=>exact keep rfl rfl yk_
 |mvN _ _ _ hc=>exact keep rfl rfl w.inv
 |drY _ hc hg=>exact keep rfl rfl yk_
 |drN _ hc=>exact keep rfl rfl w.inv
 |wrt y1 y2 y3 e=>
  rename_i a b s h' m';cases e;by_cases c:a∈W.its
  .rw[HB c];obtain⟨U,v,e1,e2,e3⟩:=qE b hi_ ar!;have mem:∀q,q∈wrT b hi_ ar!↔q∈W.txt a\/q∈s.cps.toList.zipIdx.map kC!:=λq=>by
    rw[e2,e1];simp only[GZ];constructor<;>(intro z;rcases z with(z|z)|z<;>simp[z])
   have fresh:∀x∈W.its,∀q∈W.txt x,∀k:Int,q.1≠.tup [aU_,d4!,g8_]:=λx hx q hq k z=>by
    show"!Y";rw[e']at z;cases z;exact hn hm
   have tx:∀x,(yl!).txt x=if x=a then wrT b hi_ ar! else W.txt x:=λx=>rfl
   have all:∀(P:D×D×Bool->Prop),(∀x∈W.its,∀q∈W.txt x,P q)->(∀q∈s.cps.toList.zipIdx.map kC!,P q)->∀x∈W.its,∀q∈(yl!).txt x,P q:=λP B J x hx q hq=>by
    rw[tx]at hq;by_cases e:x=a
    .rw[HB e]at hq;obtain z|z:=(mem q).mp hq
     .exact B a c q z
     .exact J q z
    .rw[GS e]at hq;exact B x hx q hq
   refine⟨qH w.inv c ?_ d2_ oi!,λx hx=>HQ _ (w.its x hx),all _ (λx hx q hq=>?_) d2_⟩
   .rw[e2];have nd:=w.inv.snd a c;rw[e1]at nd;obtain⟨n1,_⟩:=b0t h m s.cps.toList 0;have dj:∀q∈W.txt a,∀q'∈s.cps.toList.zipIdx.map kC!,q.1≠q'.1:=λq hq q' bg=>by
     obtain⟨c',k',rfl⟩:=tK bg;exact fresh a c q hq _
    simp only[HU]at nd ⊢;rw[IG]at nd;rw[IG,IG];refine⟨⟨nd.1,n1,jQ!⟩,nd.2.1,jQ!⟩
    .obtain⟨q,hq,rfl⟩:=HK.mp hx;obtain⟨q',bg,rfl⟩:=HK.mp hy;exact dj q (by rw[e1];exact HQ _ hq) q' bg
    .obtain hx|hx:=GZ.mp hx
     .exact nd.2.2 x hx y hy
     .obtain⟨q',bg,rfl⟩:=HK.mp hx;show"#-";exact GT (dj q (by rw[e1];exact HD _ hq) q' bg)
   .obtain z|z:=(mem q).mp hq
    .exact w.inv.sg a c q z
    .obtain⟨c',k',rfl⟩:=tK z;exact ww_
   .obtain z|z:=(mem q).mp hq
    .exact(w.inv.su a c y hy q z q' bg e).symm
    .obtain⟨c',k',rfl⟩:=tK z;exact absurd e.symm (fresh y hy q' bg _)
   .show"!Y";exact pe_
   .obtain⟨c',k',rfl⟩:=tK hq;exact⟨_,_,_,rfl,F!⟩
  .show"!|"
 |cut y1 y2 y3 y4=>
  rename_i a x y z m';by_cases c:a∈W.its
  .rw[HB c];have tx:∀v,(setT W a (Gb ym! ar!)).txt v=if v=a then Gb ym! ar! else W.txt v:=λx=>rfl
   refine⟨zW w.inv c _,λv hv=>HQ _ (w.its v hv),λv hv q hq=>?_⟩
   .rw[tx]at hq;split at hq
    .show"#&";obtain⟨a',b',c',e',hm⟩:=w.sgs a c q0 h0;exact pe_
    .obtain⟨a',b',c',e',hm⟩:=w.sgs v hv q hq;exact pe_
  .show"!|"
 |set y1 y2 y3=>
  rename_i a p v;by_cases c:a∈W.its
  .rw[HB c];exact keep rfl rfl (b3f w.inv (by rw[KW];exact w.inv.nl a c))
  .show"!|"
end
def b9a:(Str.ofString "put"==Str.ofString "put")=true:=by decide+kernel
def a2w:(Str.ofString "move"==Str.ofString "move")=true:=by decide+kernel
def a2x:(Str.ofString "drop"==Str.ofString "drop")=true:=by decide+kernel
def a6j:(Str.ofString "write"==Str.ofString "write")=true:=by decide+kernel
def b9b:(Str.ofString "cut"==Str.ofString "cut")=true:=by decide+kernel
def b8z:(Str.ofString "set"==Str.ofString "set")=true:=by decide+kernel
section
variable{t:Ay}{M:Mh}{o:xK!}{rl:Addr->Nz}{W W':OW}{hb:Nat}{R:D->Mh->Prop}{pre:List D}
def ifT{ft:aj!}{q1 q2:WS}{ρ:Ad}{R:p_}(h:yn_)(k:q1 ρ M R):Av (Dh ft) q1 q2 ρ M R:=by simp only[Av,Dh,h];exact k
def iP{ft:aj!}{q1 q2:WS}{ρ:Ad}{R:p_}(h:yo!)(k:hj_):Av (Dh ft) q1 q2 ρ M R:=by simp only[Av,Dh,h];exact k
def aX:(fT (f2 Bb bu_ (fC pf_))) [G_,d9!,some ed_]=some kE_:=by
 have e:Ai ed_ K!=some V!:=by
  show pg!;unfold Da Dx;simp
 simp[fT,f2,Aa,fC,e,gG]
def ix1:Ai pg_ aI!=some a:=by show Da (D.str k::a::r) 1=_;unfold Da Dx;rw[a8_,ph!];simp
def ix2:Ai ph_ bs!=some b:=by show Da (D.str k::a::b::r) 2=_;unfold Da Dx;rw[a8_,ph!];simp
def ix3:Ai pi! aA_=some c:=by show Da (D.str k::a::b::c::r) 3=_;unfold Da Dx;rw[a8_,ph!];simp
def ax1:f2 Ai v! r! [G_,d9!,some pg_]=some a:=ix1
def ax2:f2 Ai v! W_ [G_,d9!,some ph_]=some b:=ix2
def ax3:f2 Ai v! ae! [G_,d9!,some pi!]=some c:=ix3
def av0:Aa 0 yp!=some av!:=rfl
def av1:Aa 1 yp!=some n:=rfl
def gQ{f:WE}{ρ:Ad}{R:p_}(k:f ρ M λ_ M1=>R ap_ M1):Bm f ρ M R:=k
def vM{g:WF}{fo f1 f2 f3:e_}{ρ:Ad}(h0:fo ρ=some d)(B:fg!)(J:g5!)(h3:pi_)(ho:k6_)(k:g [d,a,b,c] M R):Bh C m 4 g ce_ (Ac kg! (Ac (wl f2) (Ac (wl f3) Ag))) ρ M R:=by simp only[Bh,wl,Ac,Ag,h0,B,J,h3];exact oL!
def d0w{g:WF}{fo f1 f2 f3 f4:e_}{ρ:Ad}(h0:fo ρ=some d)(B:fg!)(J:g5!)(h3:pi_)(h4:f4 ρ=some e)(ho:k6_)(k:g [d,a,b,c,e] M R):Bh C m 5 g ce_ yr! ρ M R:=by simp only[Bh,wl,Ac,Ag,h0,B,J,h3,h4];exact oL!
def c2g{h m:Int}(hO:a5!)(w:Vh W pre)(hn:yi_)(hs:Sk W pd_ d W')(hB:gV!)
  (hR:∀M' ah,Ck t M' o ah W' bj_->Fr M rl M' ah->R .non M'):Mt t [aL_,.tup cI!,d] M R:=by
 have hO':=hO;obtain⟨a1,a2,a3,a4,a5,a6,k1,k2,k3,k4,k5,k6,hA⟩:=hO';have fresh:∀x∈W.its,∀k':Nat,D.tup [aU_,d4!,.int (k':Nat)]∉(bS!).map b_:=λx hx k' z=>by
  obtain⟨q,hq,e⟩:=HK.mp z;show"!Y";rw[e']at e;cases e;exact hn hm
 refine o_;cases hs with
 |put ha Y hg=>
  show"!1";obtain⟨kb,md⟩:=uM Y;refine ifT (aX.trans (congrArg some b9a)) ?_;exact gQ (vM av0 av1 ax1 ax2 (hA.noOb oM4) (c6i hO w.inv (λz=>hn (w.its _ z)) bA! bj md hB hg hR))
 |mvY ha Y bn hc hg=>
  show"!J";exact gQ (vM av0 ax1 ax2 ax3 kF_ (tR hO w.inv bj md RM hB λM' f1 _ fr=>hR M' rl (f1 hc _ hg) fr))
 |mvN ha Y bn hc=>
  show"!J";exact gQ (vM av0 ax1 ax2 ax3 kF_ (tR hO w.inv bj md RM hB λM' _ f1 fr=>hR M' rl (f1 hc) fr))
 |drY ha hc hg=>
  show"!{";exact gQ (vM av0 ax1 rfl rfl kF_ (tR hO w.inv bj (kx:=pj!) rfl (ks:=none) rfl hB λM' f1 _ fr=>hR M' rl (f1 hc _ hg) fr))
 |drN ha hc=>
  show"!{";exact gQ (vM av0 ax1 rfl rfl kF_ (tR hO w.inv bj (kx:=pj!) rfl (ks:=none) rfl hB λM' _ f1 fr=>hR M' rl (f1 hc) fr))
 |wrt ha Y dh e=>
  cases e;show"!1";obtain⟨kb,md⟩:=b3d Y;refine iP (aX.trans (congrArg some kL)) ?_;refine iP (aX.trans (congrArg some jD)) ?_;refine iP (aX.trans (congrArg some jE)) ?_;refine ifT (aX.trans (congrArg some a6j)) ?_;exact gQ (d0w av0 av1 ax1 ax2 ax3 (hA.noOb oM7) (b5g hO w.inv bj md hB dh fresh λM' f1 _ fr=>hR M' rl f1 fr))
 |cut ha b5 B J=>
  show"!1";refine iP (aX.trans (congrArg some nW)) ?_;refine iP (aX.trans (congrArg some lV)) ?_;refine iP (aX.trans (congrArg some lW)) ?_;refine iP (aX.trans (congrArg some kN)) ?_;refine ifT (aX.trans (congrArg some b9b)) ?_;exact gQ (vM av0 ax1 ax2 ax3 (hA.noOb oM8) (c9b hO w.inv bj hB b5 B J λM' f1 fr=>hR M' rl f1 fr))
 |set ha B J=>
  show"!1";refine iP (aX.trans (congrArg some nU)) ?_;refine iP (aX.trans (congrArg some lT)) ?_;refine iP (aX.trans (congrArg some lU)) ?_;refine iP (aX.trans (congrArg some kM)) ?_;refine iP (aX.trans (congrArg some nV)) ?_;refine ifT (aX.trans (congrArg some b8z)) ?_;exact gQ (vM av0 ax1 ax2 ax3 (hA.noOb oM9) (xB hO w.inv bj B J λM' f1 fr=>hR M' rl (f1.mono a!) fr))
def c2h{k:Str}(hk:yu_)(hR:R .non M):Mt t [aL_,n,.tup pj_] M R:=by
 refine o_;obtain rfl|rfl:=hk
 .refine iP (aX.trans (congrArg some sI)) ?_;refine iP (aX.trans (congrArg some pG)) ?_;refine iP (aX.trans (congrArg some pH)) ?_;refine iP (aX.trans (congrArg some nG)) ?_;refine iP (aX.trans (congrArg some sJ)) ?_;refine iP (aX.trans (congrArg some a6d)) ?_;exact hR
 .refine iP (aX.trans (congrArg some sK)) ?_;refine iP (aX.trans (congrArg some pJ)) ?_;refine iP (aX.trans (congrArg some pK)) ?_;refine iP (aX.trans (congrArg some nH)) ?_;refine iP (aX.trans (congrArg some sL)) ?_;refine iP (aX.trans (congrArg some a6g)) ?_;exact hR
def eE{bnd:ag!}{ck:cL_}{ft:WT}{fe:WE}{ρ:Ad}(b:D->Bool)(y:D->D)(ir:ck M):∀(ds:a_) (R:pn_),
  (∀d∈ds,∃al,bnd d ρ=some al/\(∀K:Bool->Mh->Prop,K (b d) M->ft al M K)/\(b d=true->∀K:D->Mh->Prop,K (y d) M->fe al M K))->R ((ds.filter b).map y) M->Qq bnd ck ft fe ρ ds M R
 |[],R,_,hR=>⟨ir,hR⟩
 |d::ds,R,h,hR=>by
  obtain⟨al,e1,e2,e3⟩:=h d GX;refine⟨ir,?_⟩;rw[e1];refine e2 _ ?_;cases Y:b d with
  |true=>
   refine e3 Y _ (eE b y ir ds _ yw! ?_);rw[JI Y]at hR;exact hR
  |false=>
   refine eE b y ir ds _ yw! ?_;rw[JJ (by simp[Y])]at hR;exact hR
end
structure Op where
 h:Int
 n:Int
 tm:Int
 d:D
nonrec def Op.v(o:Op):D:=.tup kH!
nonrec def Op.nm(o:Op):D:=.tup [hk_,.int o.n]
nonrec def Op.key(o:Op):Int×Int:=(o.tm,o.h)
def Gu:D->Option cf!
 |.tup [.str k,a]=>if pk_ then some (k,a)else none
 |_=>none
def yK(k:Str)(a:D):Gu (.tup pj_)=if pk_ then some (k,a)else none:=rfl
def tX(h:DG d):(∃k a,d=.tup pj_/\yx_/\NameG a/\Gu d=some (k,a))\/(∃k r,d=.tup dp!/\hl!=false/\(k=="redo")=false/\Gu d=none):=by
 have uu:pl_=true:=by decide+kernel
 have rr:pm!=true:=by decide+kernel
 cases h with
 |put B J=>exact .inr ⟨_,_,rfl,sM,sN,rfl⟩
 |move B J h3=>exact .inr ⟨_,_,rfl,a2s,a2t,rfl⟩
 |drop B=>
  refine .inr ⟨_,_,rfl,a2u,a2v,?_⟩;rfl
 |write B J h3 h4 h5=>exact .inr ⟨_,_,rfl,yB,yC,rfl⟩
 |cut B J h3 h4=>exact .inr ⟨_,_,rfl,a6h,a6i,rfl⟩
 |set B J h3 h4=>exact .inr ⟨_,_,rfl,a6e,a6f,rfl⟩
 |undo B=>
  refine .inl ⟨_,_,rfl,cT!,B,?_⟩;rfl
 |redo B=>
  refine .inl ⟨_,_,rfl,.inr rfl,B,?_⟩;rfl
def a2z(o:Op):Dc [o.v]=some yz!:=by simp[Dc,Kb,Op.v,Bw,Be,As,Ab,Af,f2,Aa,fC,Ai,Da,Dx]
def wC:∀ops:List Op,Ms Dc cJ!=some pm_
 |[]=>rfl
 |o::r=>by
  rw[GY];unfold Ms;rw[a2z,wC r];rfl
def d1a(o:Op):Hw Dc o.v=o.key:=by unfold Hw;rw[a2z];rfl
def a6s{α β:Type}{f:li!}{k:α->Int×Int}{k':β->Int×Int}(h:yA!)(x:α):∀l:List α,Qo k' (f x) hJ_=(Qo k x l).map f
 |[]=>rfl
 |y::r=>by
  simp only[GY,Qo,h];split
  .rfl
  .rw[a6s h x r];rfl
def uK{α β:Type}{f:li!}{k:α->Int×Int}{k':β->Int×Int}(h:yA!):∀l:List α,Iq k' hJ_=(Iq k l).map f
 |[]=>rfl
 |x::r=>by rw[GY];unfold Iq;rw[uK h r,a6s h]
abbrev Ig(ops:l!):List Op:=Iq Op.key ops
def lX{ops:l!}(nd:ee_)(hl:ef!):De ch_=some (.lst hm!):=by
 have e:Zb Dc cJ!=some hm!:=by
  unfold Zb;rw[wC];show(if(pm_).Nodup/\(cJ!).length<64 then some _ else none)=_;rw[HB ⟨nd,kE!⟩,uK d1a]
 simp[De,Qe,Bw,Be,Ub,Aa,e]
def rZ{a b:l!}(h:a.Perm b)(nd:yB!):Ig a=Ig b:=
 oH (jG nd) (jG ((h.map _).nodup_iff.mp nd)) ((cG a).trans (h.trans (cG b).symm))
def b5s{a:l!}(nd:yB!):Ig (Ig a)=Ig a:=rZ (cG a) (((cG a).map _).nodup_iff.mpr nd)
def c4y{o:Op}(h:DG o.d):Ax [o.v]=some po_:=by
 have e3:Ai o.v aA_=some o.d:=by
  simp[Op.v,Ai,Da,Dx]
 have main:∀(k:Str) (r:a_),o.d=.tup dp!->Ax [o.v]=some (.bl pk_):=λk r e=>by
  have e0:Ai ed_ K!=some V!:=by
   show pg!;unfold Da Dx;simp
  have e1:∀s:Str,f2 Bb iT_ (fC aV!) [Z!]=some (.bl (k==s)):=λs=>by
   show(pp!).bind yE!=_;rw[e3,e];show((Ai ed_ K!)).bind yE!=_;rw[e0];exact gG k s
  show(match Be (Ev _ _) [Z!]with|some (.rt d)=>some d|some (.nx _)=>some .non|none=>none)=_;unfold Be Ev fT;rw[e1,e1];cases (k==Str.ofString "undo")<;>rfl
 obtain⟨k,a,e,hk,_,hu⟩|⟨k,r,e,B,J,hu⟩:=tX h
 .rw[main k [a] e,hu];obtain rfl|rfl:=hk
  .rw[yE_];rfl
  .rw[yF!,a2r];rfl
 .rw[main k r e,hu,B,J];rfl
def Ny(f:Str->D):List Op->List ax_->List ax_
 |[],acc=>acc
 |o::os,acc=>match Gu o.d with
  |some (k,a)=>Ny f os (Aq acc a (f k))
  |none=>Ny f os acc
def uE:∀(os:l!) (A hb:g!),(∀x,(kget A x=none/\kget hb x=none)\/∃k:Str,kget A x=some V!/\kget hb x=some fq_)->
  ∀x,(kget xf_ x=none/\kget yG! x=none)\/∃k:Str,kget xf_ x=some V!/\kget yG! x=some fq_
 |[],A,hb,h=>h
 |o::os,A,hb,h=>by
  unfold Ny;cases e:Gu o.d with
  |none=>exact uE os A hb h
  |some q=>
   obtain⟨k,a⟩:=q;refine uE os _ _ λx=>?_;by_cases c:a=x
   .subst c;rw[dQ,dQ];exact .inr ⟨k,rfl,rfl⟩
   .rw[eH c,eH c];exact h x
section
variable{t:Ay}{M:Mh}{R:D->Mh->Prop}
def gL{kvs:g!}{ep:Nat}(h:bU_)(hk:cg!)(hl:ds_):Ki M C_ y v=some hy!:=by simp[Ki,h,hk,hl]
def zD(h:NameG x):∃k,Dk x=some k:=by obtain⟨a,b,rfl,_⟩:=h;exact I!
def d1p:Aa 1 pr!=some C_:=rfl
def a1v:∀(os:l!) (x1:D) (y:T_) (acc:g!) (ep:Nat) (M:Mh) (R:p_),pr_->ck_+L_<1000->M p=some ps!->
  (∀M' be y',M' p=some (.dct yG_ be)->fr!->R yI! M')->
  Gf be! Q! s2! ay_ pr! M R
 |[],x1,y,acc,ep,M,R,_,_,hp,hR=>yH_
 |o::os,x1,y,acc,ep,M,R,hd,hl,hp,hR=>by
  refine aN!;show Av (Dh _) _ _ bW! M _;have ho:=hd o GX;have et:fT (f1 Ax c3!) bW!=some (Gu o.d).isSome:=by
   have e:f1 Ax c3! bW!=some po_:=c4y ho;unfold fT;rw[e];rfl
  simp only[HA]at hl;have e3:Ai o.v aA_=some o.d:=by simp[Op.v,Ai,Da,Dx]
  obtain⟨k,a,e,hk,f8,hu⟩|⟨k,r,e,B,J,hu⟩:=tX ho
  .rw[hu]at et;refine ifT et ?_;obtain⟨ka,lj⟩:=zD f8;have i0:f2 Ai a1_ D_ bW!=some V!:=by
    show pp!=_;rw[e3,e];show Da [D.str k,a] 0=_;simp[Da,Dx]
   have i1:f2 Ai a1_ r! bW!=some a:=by
    show yJ_;rw[e3,e];show Da [D.str k,a] 1=_;simp[Da,Dx]
   have ig:Ki M C_ a V!=some yK_:=by
    exact gL hp lj hc_
   have:=a1v (p:=p) os x1 ef_ (Aq acc a V!) (Fx acc a ep) yK_ R ho! (by have:=kput_len acc a V!;omega) mup_same (λM' be y' B J=>hR M' be y' yL! λb Y=>(J b Y).trans fr_);simp only[Cd,wl,i0,i1,d1p,ig,El];show"#;"
  .rw[hu]at et;refine iP et ?_;exact a1v (p:=p) os x1 ef_ acc ep M R ho! a! hp yM_
def a3j{f:e_}{ρ:Ad}(h:f ρ=some cy!):Eo f ρ=some ds:=by unfold Eo;rw[h];rfl
def xO{ops:l!}(nd:ee_)(hl:ef!)(hd:ho_)
  (hR:∀p M' ep,M p=none->M' p=some (.dct hp! ep)->fr!->R C_ M'):Fy ch_ M R:=by
 refine o_;intro p hp;have hi:Eo iU_ pt!=some hm!:=a3j (lX nd hl);have b6:(aV_).Perm ops:=cG ops;have:=a1v (p:=p) aV_ hp_ none [] 0 dt! (λr M1=>match r with|.nx al=>Bn w_ al M1 gS_|.rt d=>R d M1) yN_ yO! mup_same yO_;show Ah (Df (Lw _) _ _) _ pt! _ _;simp only[Ah,Df,Lw,hi,El];show"#;"
def t2{g:a4_}{fa:WE}{fb:e_}{ρ:Ad}{K:fq!}{b:Bool}(ha:∀K':D->Mh->Prop,K' d M->fa ρ M K')(Y:fb ρ=some v)(hg:g d v=some bK_)(k:K b M):wT (w2 pq_ fa hq!) ρ M K:=by refine ha _ ?_;simp only[wl,Y,hg];exact k
def Undn(wd:g!)(o:Op):Prop:=Gu o.d=none/\kget wd o.nm=some b7_
def b5t(o:Op):Bg o.v none (some 2)=some o.nm:=by simp[Op.v,Op.nm,Bg,Db,HT.sIx]
def a9d(o:Op):∃k,Dk o.nm=some k:=I!
def b0m{e0:Nat}(se:p≠q):∀(os:l!) (x1:D) (y z:T_) (acc:g!) (ep:Nat) (M:Mh) (R:p_),pr_->ck_+L_<1000->M p=some (.dct wd e0)->M q=some ps!->(∀x v,kget wd x=some v->∃k:Str,v=.str k)->
  (∀M' be y' z' dq,M' q=some (.dct dq be)->(∀x,kget dq x≠none↔(kget acc x≠none\/∃o∈os,o.nm=x/\Undn wd o))->yP!->R (.nx [R_,S!,aW!,y',z']) M')->
  Gf P! Q! iW_ ay_ [R_,S!,aW!,y,z] M R
 |[],x1,y,z,acc,ep,M,R,_,_,hp,hq,me,hR=>⟨trivial,hR M ep y z acc hq yQ! λb _=>rfl⟩
 |o::os,x1,y,z,acc,ep,M,R,hd,hl,hp,hq,me,hR=>by
  refine aN!;show Ah (An 4 _) _ yQ_ M _;have ho:=hd o GX;simp only[HA]at hl;have es:En F_ Au c0_ yQ_=some o.nm:=b5t o;simp only[Ah,An,wl,es];show Av _ _ _ dr_ M _;have et:Ct s3_ dr_=some (!(Gu o.d).isSome):=by
   have e:f1 Ax iV_ dr_=some po_:=c4y ho;unfold Ct fT;rw[e];rfl
  obtain⟨kn,gb⟩:=a9d o;have next:∀(c:Prop),(c↔Undn wd o)->∀dq be M',M' q=some (.dct dq be)->(∀x,kget dq x≠none↔(kget acc x≠none\/(x=o.nm/\c)))->dq.length<=ck_+1->yP!->
    Gf P! Q! iW_ ay_ dr_ M' R:=λc hc dq be M' B J h3 h4=>by
   refine b0m (p:=p) (q:=q) (wd:=wd) (e0:=e0) se os x1 _ _ dq be M' R ho! a! ((h4 p se).trans hp) B me λM2 ox y2 z2 acc2 g1 g2 g3=>hR M2 ox y2 z2 acc2 g1 pu! λb Y=>(g3 b Y).trans (h4 b Y);rw[g2,J];show"!K"
   .rintro((u|⟨u1,u2⟩)|⟨o',u1,u2,u3⟩)
    .exact .inl u
    .exact .inr ⟨o,GX,u1.symm,hc.mp u2⟩
    .exact .inr ⟨o',GP _ u1,u2,u3⟩
   .rintro(u|⟨o',u1,u2,u3⟩)
    .exact .inl (.inl u)
    .obtain rfl|u1:=GR.mp u1
     .exact .inl (.inr ⟨u2.symm,hc.mpr u3⟩)
     .exact .inr ⟨o',u1,u2,u3⟩
  have no:(¬Undn wd o)->Gf P! Q! iW_ ay_ dr_ M R:=λh=>next False (by simp[h]) acc ep M hq yQ! a! λb _=>rfl;cases hu:Gu o.d with
  |some u=>
   rw[hu]at et;simp only[Av,Gj,Dh,et];exact no λz=>by rw[z.1]at hu;cases hu
  |none=>
   rw[hu]at et;simp only[Av,Gj,Dh,et];have hg:∀(K:u_),K yR_ M->Ob w_ aB! dr_ M K:=λK hK=>by
    have c1:Dl M C_=some (p,wd,e0):=by simp[Dl,hp]
    show El (Dl M C_) λ_=>El (Dl M C_) λq=>El (Dk o.nm) λ_=>K ((kget q.2.1 o.nm).getD .non) M;rw[c1,gb];exact hK
   have hsd:Sd yR_:=by
    cases e:kget wd o.nm with
    |none=>exact .inl rfl
    |some v=>obtain⟨k,rfl⟩:=me _ _ e;exact iA k
   have WN:(pv!).getD .non=.str "undo"↔Undn wd o:=by
    unfold Undn;rw[hu];cases e:kget wd o.nm with
    |none=>simp
    |some v=>simp
   refine t2 hg (v:=oU_) rfl (pU hsd (iA _)) ?_;by_cases c:(pv!).getD .non=.str "undo"
   .rw[HY c];have ig:=gL (y:=o.nm) (v:=eC_) hq gb hc_;have f2:Aa 2 dr_=some bC!:=rfl;have f4:Aa 4 dr_=some o.nm:=rfl;simp only[Cd,wl,fC,f2,f4,ig,El];refine next True (by simp[<-WN,c]) _ _ _ mup_same pu! dW! λb Y=>mup_ne Y;by_cases e:o.nm=x
    .subst e;rw[dQ];simp
    .rw[eH e];simp[GT e]
   .rw[HF c];exact no λz=>c (WN.mpr z)
def a0g:∀(os:l!) (acc:g!),(∀x v,kget acc x=some v->∃k:Str,v=.str k)->∀x v,kget yG_ x=some v->∃k:Str,v=.str k
 |[],acc,h=>h
 |o::os,acc,h=>by
  unfold Ny;cases e:Gu o.d with
  |none=>exact a0g os acc h
  |some q=>
   obtain⟨k,a⟩:=q;refine a0g os _ λx v hx=>?_;by_cases c:a=x
   .subst c;rw[dQ]at hx;cases hx;exact⟨k,rfl⟩
   .rw[eH c]at hx;exact h x v hx
def b2y{ops:l!}(nd:ee_)(hl:ef!)(hd:ho_)
  (hR:∀q M' ep kq,M q=none->M' q=some (.dct kq ep)->(∀x,kget kq x≠none↔∃o∈ops,o.nm=x/\Undn hp! o)->yS_->R bC! M'):Lg ch_ M R:=by
 refine o_;have hc:∀(K:u_),Fy ch_ M K->Ao 1 Fy bu! yT_ M K:=λK h=>cc_;refine hc _ (xO nd hl hd λp M1 ep hp hM1 fr=>?_);intro q hq;have se:p≠q:=λz=>by rw[<-z,hM1]at hq;cases hq
 have pv:M q=none:=by rw[<-fr q (GT se)];exact hq
 have hi:Eo l_ [eg!,S!,aW!,none,none]=some cJ!:=rfl;refine b0m (wd:=pw!) (e0:=ep) se ops hp_ none none [] 0 _ _ hd bL! ((mup_ne se).trans hM1) mup_same (a0g _ [] λx v h=>by simp[kget]at h) λM' be y' z' dq B J h3=>?_;refine hR q M' be dq pv B pu! λb Y=>?_
 .rw[J];simp[kget]
 .have b1:b≠q:=λz=>Y (by rw[z];exact pv);have b2:b≠p:=λz=>Y (by rw[z];exact hp);rw[h3 b b1,mup_ne b1,fr b b2]
end
def W0:OW:=⟨[],[],λ_=>[],λ_=>[]⟩
def c5w:Vh W0 []:=by refine⟨⟨by simp[W0],eh!,by simp[W0],λx=>by simp[W0],yV!,⟨λ_=>0,yV!⟩,eh!,eh!,eh!,eh!⟩,eh!,eh!⟩
section
variable{t:Ay}{M:Mh}{R:D->Mh->Prop}
def cQ(f:Str)(v:D):∀l:List cf!,(Bo f v l).length<=Y!+1
 |[]=>by simp[Bo]
 |(g,x)::r=>by
  unfold Bo;split
  .simp
  .have:=cQ f v r;simp;omega
def Kp(o:xK!)(M M':Mh):Prop:=∀c,M c≠none->c≠o->M' c=M c
def Kp.trans{M M1 M2:Mh}(a:Kp o M M1)(b:Kp o M1 M2):Kp o M M2:=λc B J=>by
 have e:=a c B J;rw[b c (by rw[e];exact B) J,e]
def pW{fs:aN_}{R:p_}(ho:M o=some g4_)(hl:bn_<100)
  (hR:∀a M',M a=none->M' a=some E_->M' o=some (.obj C (Bo x df_ fs))->Kp o M M'->(∀c,M' c≠none->M c≠none\/c=a)->R (.nx [G_]) M'):Dz C x j_ Fg [G_] M R:=by
 intro a ha;have oa:o≠a:=λz=>by rw[<-z,ho]at ha;cases ha
 have e:Az M a E_ o=some g4_:=(mup_ne oa).trans ho;have f0:Aa 0 [G_]=some av!:=rfl;simp only[wl,f0,e];refine⟨trivial,hl,hR a _ ha ((mup_ne (GT oa)).trans mup_same) mup_same (λc B J=>?_) λc hc=>?_⟩
 .rw[cA_,mup_ne λz=>B (by rw[z];exact ha)]
 .by_cases c1:c=a
  .exact .inr c1
  .by_cases c2:c=o
   .rw[c2,ho];exact .inl c_
   .rw[kO!,mup_ne c1]at hc;exact .inl hc
def pc{fa:e_}{fb:WE}{fp:WP}{ρ:Ad}{R:zj_}(h:fa ρ=some x)(k:fb ρ M λy M2=>fp ρ M2 λkvs M3=>R ((x,y)::kvs) M3):Ek ft! fb fp ρ M R:=by simp only[Ek,wl,h];exact k
def a1s{ρ:Ad}(hR:∀o rl M',M o=none->Ck t M' o rl W0 2->pw_->R av! M'):Hi t.B4 1 (Ho t) Ag ρ M R:=by
 refine⟨rfl,λo ho=>o_⟩;have f0:Aa 0 [G_]=some av!:=rfl;show Ah (Dz t.B4 "parents" _ _) _ [G_] yX_ _;intro a1 xv;have j4:a1≠o:=λz=>by rw[z,mup_same]at xv;cases xv
 rw[mup_ne j4]at xv;refine⟨mup_same,R!,kO_,?_,?_⟩
 .obtain rfl|hq:=GR.mp hq
  .rfl
  .rw[kP!];rfl
 .show(kP_).Nodup;rw[HH];exact yY!
 have e1:Az yY_ a1 yZ_ o=some yX!:=by rw[y0!,y0!,mup_same]
 simp only[wl,f0];rw[e1];refine⟨rfl,R!,?_⟩;generalize xw:Az (Az yY_ a1 yZ_) o py!=S1;have sf:S1 o=some py!:=by rw[<-xw,mup_same]
 have sh:S1 a1=some (.dct kQ_ 2):=by rw[<-xw,mup_ne j4,mup_same];rfl
 have S1m:∀c,c≠o->c≠a1->S1 c=M c:=λc B J=>by rw[<-xw,cd!,cA_,cA_,cd!]
 clear xw e1;intro a2 sj;have j5:a2≠o:=λz=>by rw[z,sf]at sj;cases sj
 refine pc rfl ?_;refine oZ λr1 f1 p1 N1 z1 z2 z3 _ _ R1 K1=>?_;refine pc rfl ?_;refine oZ λr2 f2 p2 N2 y1 y2 y3 _ _ R2 K2=>?_;have l1:∀c,Az S1 a2 E_ c≠none->N1 c=Az S1 a2 E_ c:=λc hc=>K1 c (aV hc z1) (aV hc z2) (aV hc z3);have l2:∀c,N1 c≠none->N2 c=N1 c:=λc hc=>K2 c (aV hc y1) (aV hc y2) (aV hc y3);have RN:N1 a2=some E_:=by rw[l1 a2 py_,mup_same]
 have n2a:N2 a2=some E_:=by rw[l2 a2 (by rw[RN];simp),RN]
 have RO:N1 o=S1 o:=by rw[l1 o (by rw[kR!,sf];simp),kR!]
 have n2o:N2 o=S1 o:=by rw[l2 o y1!,RO]
 refine⟨n2a,F!,kO_,?_,?_⟩
 .obtain rfl|hq:=GR.mp hq
  .rfl
  .rw[kP!];rfl
 .show(kP_).Nodup;rw[HH];exact yY!
 have e2:Az N2 a2 y2! o=some py!:=by rw[kR!,n2o,sf]
 simp only[wl,f0];rw[e2];refine⟨rfl,by have:=cQ dY_ ft_ [];simp at this;omega,?_⟩;generalize xx:Az (Az N2 a2 y2!) o y3!=S2;have WO:S2 o=some y3!:=by rw[<-xx,mup_same]
 have RP:S2 a2=some (.dct kR_ 2):=by rw[<-xx,mup_ne j5,mup_same];rfl
 have vm:∀c,c≠o->c≠a2->S2 c=N2 c:=λc B J=>by rw[<-xx,cd!,cA_]
 clear xx e2;have px:∀c,N1 c≠none->c≠r2/\c≠f2/\c≠p2:=λc hc=>⟨aV hc y1,aV hc y2,aV hc y3⟩;have v1:=R1.live;have v2:=R2.live;have nr:∀c,Az S1 a2 E_ c≠none->c≠r1/\c≠f1/\c≠p1:=λc hc=>⟨aV hc z1,aV hc z2,aV hc z3⟩;have so:Az S1 a2 E_ o≠none:=by rw[kR!,sf];simp
 have sa:Az S1 a2 E_ a2≠none:=by rw[mup_same];simp
 have RQ:Kp o S1 S2:=λc hc h=>by
  have c2:c≠a2:=λz=>hc (by rw[z];exact sj);have s:Az S1 a2 E_ c≠none:=by rw[kO!];exact hc
  have e:=l1 c s;rw[vm c h c2,l2 c (by rw[e];exact s),e,kO!]
 refine pW (x:=ht!) WO (by have:=cQ dk! hs! fu!;have:=cQ dY_ ft_ [];simp at this;omega) λa3 S3 q3 RS WQ vn w3=>?_;refine pW (x:=pz_) WQ (by have:=cQ dZ! kS_ hs_;have:=cQ dk! hs! fu!;have:=cQ dY_ ft_ [];simp at this;omega) λa4 S4 q4 RT WR sv w4=>?_;refine pW (x:="written") WR (by have:=cQ e9! (.fn a4) pA!;have:=cQ dZ! kS_ hs_;have:=cQ dk! hs! fu!;have:=cQ dY_ ft_ [];simp at this;omega) λa5 S5 q5 RU WU pz w5=>?_;refine pW (x:="hidden") WU (by have:=cQ n5! (.fn a5) y4!;have:=cQ e9! (.fn a4) pA!;have:=cQ dZ! kS_ hs_;have:=cQ dk! hs! fu!;have:=cQ dY_ ft_ [];simp at this;omega) λa6 S6 q6 S6a WV WW w6=>?_;have hob:Bo v1_ (.fn a6) (Bo n5! (.fn a5) y4!)=oF a1 a2 a3 a4 a5 a6:=by kernel_rfl
 have WX:=pz.trans WW;have WY:=sv.trans WX;have xy:=vn.trans WY;have WZ:=RQ.trans xy;have lo:∀{N:Mh} {c:xK!} {x:Nx},N c=some x->N c≠none:=λh=>by rw[h];simp
 have o3:a3≠o:=λz=>by rw[z,WO]at q3;cases q3
 have o4:a4≠o:=λz=>by rw[z,WQ]at q4;cases q4
 have o5:a5≠o:=λz=>by rw[z,WR]at q5;cases q5
 have o6:a6≠o:=λz=>by rw[z,WU]at q6;cases q6
 have F1:S6 a1=some (.dct kQ_ 2):=(WZ a1 (lo sh) j4).trans sh;have F2:S6 a2=some (.dct kR_ 2):=(xy a2 (lo RP) j5).trans RP;have F3:S6 a3=some E_:=(WY a3 (lo RS) o3).trans RS;have F4:S6 a4=some E_:=(WX a4 (lo RT) o4).trans RT;have F5:S6 a5=some E_:=(WW a5 (lo RU) o5).trans RU;have F6:=S6a;have RW:∀c,N1 c≠none->c≠o->c≠a2->S6 c=N1 c:=λc hc B J=>by
  have e:=l2 c hc;have e':=vm c B J;rw[xy c (by rw[e',e];exact hc) B,e',e]
 have RX:∀c,N2 c≠none->c≠o->c≠a2->S6 c=N2 c:=λc hc B J=>by
  have e':=vm c B J;rw[xy c (by rw[e'];exact hc) B,e']
 have sw:=nr o so;have sy:=nr a2 sa;have Q1:Ej t S6 r1 f1 p1 []:=R1.keep (RW _ v1.1 (GT sw.1) (GT sy.1)) (RW _ v1.2.1 (GT sw.2.1) (GT sy.2.1)) (RW _ v1.2.2 (GT sw.2.2) (GT sy.2.2));have mo:=px o y1!;have ma:=px a2 (lo RN);have Q2:Ej t S6 r2 f2 p2 []:=R2.keep (RX _ v2.1 (GT mo.1) (GT ma.1)) (RX _ v2.2.1 (GT mo.2.1) (GT ma.2.1)) (RX _ v2.2.2 (GT mo.2.2) (GT ma.2.2))
 let rl:Addr->Nz:=λc=>if c=o then .ob else if c=a1 then .par else if c=a2 then .rows else if c=a3 then .texts else if c=a4 then .nums else if c=a5 then .writ else if c=a6 then .hid else if c=r1 then .rO root else if c=f1 then .rF root else if c=p1 then .rP root else if c=r2 then .rO Bi else if c=f2 then .rF Bi else if c=p2 then .rP Bi else .oth
 have dead:∀c,M c≠none->S6 c=M c/\c≠o/\c≠a1/\c≠a2/\c≠a3/\c≠a4/\c≠a5/\c≠a6/\wN!/\(c≠r2/\c≠f2/\c≠p2):=λc hc=>by
  have c0:c≠o:=aV hc ho;have c1:c≠a1:=aV hc xv;have s1:S1 c=M c:=S1m c c0 c1;have vo:S1 c≠none:=by rw[s1];exact hc
  have c2:c≠a2:=aV vo sj;have s2:S2 c≠none:=by rw[RQ c vo c0];exact vo
  have c3:c≠a3:=aV s2 q3;have s3:S3 c≠none:=by rw[vn c s2 c0];exact s2
  have c4:c≠a4:=aV s3 q4;have s4:S4 c≠none:=by rw[sv c s3 c0];exact s3
  have c5:c≠a5:=aV s4 q5;have s5:S5 c≠none:=by rw[pz c s4 c0];exact s4
  have c6:c≠a6:=aV s5 q6;have sm:Az S1 a2 E_ c≠none:=by rw[kO!];exact vo
  have n1:N1 c≠none:=by rw[l1 c sm];exact sm
  exact⟨(WZ c vo c0).trans s1,c0,c1,c2,c3,c4,c5,c6,nr c sm,px c n1⟩
 refine⟨trivial,hR o rl S6 ho ⟨a1,a2,a3,a4,a5,a6,kQ_,kR_,[],[],[],[],?_⟩ λb Y=>?_⟩
 .have g0:rl o=.ob:=HB rfl;have g1:rl a1=.par:=by show(if a1=o then _ else _)=_;rw[GS j4,m_]
  have W4:a2≠a1:=λz=>by rw[z,sh]at sj;cases sj
  have g2:rl a2=.rows:=by show(if a2=o then _ else _)=_;rw[GS j5,GS W4,m_]
  have RY:S2 a1≠none:=by rw[RQ a1 (lo sh) j4];exact lo sh
  have RZ:S2 a2≠none:=lo RP;have a31:=GT (aV RY q3);have RI:=GT (aV RZ q3);have g3:rl a3=.texts:=by show(if a3=o then _ else _)=_;rw[GS o3,GS a31,GS RI,m_]
  have SA:S3 a1≠none:=by rw[vn a1 RY j4];exact RY
  have SC:S3 a2≠none:=by rw[vn a2 RZ j5];exact RZ
  have SD:S3 a3≠none:=lo RS;have g4:rl a4=.nums:=by show(if a4=o then _ else _)=_;rw[GS o4,GS (GT (aV SA q4)),GS (GT (aV SC q4)),GS (GT (aV SD q4)),m_]
  have SE:S4 a1≠none:=by rw[sv a1 SA j4];exact SA
  have SF:S4 a2≠none:=by rw[sv a2 SC j5];exact SC
  have SG:S4 a3≠none:=by rw[sv a3 SD o3];exact SD
  have SH:S4 a4≠none:=lo RT;have g5:rl a5=.writ:=by show(if a5=o then _ else _)=_;rw[GS o5,GS (GT (aV SE q5)),GS (GT (aV SF q5)),GS (GT (aV SG q5)),GS (GT (aV SH q5)),m_]
  have t51:S5 a1≠none:=by rw[pz a1 SE j4];exact SE
  have t52:S5 a2≠none:=by rw[pz a2 SF j5];exact SF
  have t53:S5 a3≠none:=by rw[pz a3 SG o3];exact SG
  have t54:S5 a4≠none:=by rw[pz a4 SH o4];exact SH
  have t55:S5 a5≠none:=lo RU;have g6:rl a6=.hid:=by show(if a6=o then _ else _)=_;rw[GS o6,GS (GT (aV t51 q6)),GS (GT (aV t52 q6)),GS (GT (aV t53 q6)),GS (GT (aV t54 q6)),GS (GT (aV t55 q6)),m_]
  have W5:∀c,S2 c≠none->c≠o->c≠a3/\c≠a4/\c≠a5/\c≠a6:=λc J co=>by
   have s3:S3 c≠none:=by rw[vn c J co];exact J
   have s4:S4 c≠none:=by rw[sv c s3 co];exact s3
   have s5:S5 c≠none:=by rw[pz c s4 co];exact s4
   exact⟨aV J q3,aV s3 q4,aV s4 q5,aV s5 q6⟩
  have u1:∀c,N1 c≠none->c≠o->c≠a2->S2 c≠none:=λc hc B J=>by rw[vm c B J,l2 c hc];exact hc
  have u2:∀c,N2 c≠none->c≠o->c≠a2->S2 c≠none:=λc hc B J=>by rw[vm c B J];exact hc
  have SI:Az S1 a2 E_ a1≠none:=by rw[mup_ne (GT W4)];exact lo sh
  have SJ:=nr a1 SI;have SK:=px a1 (by rw[l1 a1 SI];exact SI);have SL:∀c,N1 c≠none->c≠o->c≠a1->c≠a2->rl c=if c=r1 then .rO root else if c=f1 then .rF root else if c=p1 then .rP root else if c=r2 then .rO Bi else if c=f2 then .rF Bi else if c=p2 then .rP Bi else .oth:=λc hc h0 B J=>by
   obtain⟨x3,x4,x5,x6⟩:=W5 c (u1 c hc h0 J) h0;show"#%"
  have SM:∀c,N2 c≠none->c≠o->c≠a1->c≠a2->rl c=if c=r1 then .rO root else if c=f1 then .rF root else if c=p1 then .rP root else if c=r2 then .rO Bi else if c=f2 then .rF Bi else if c=p2 then .rP Bi else .oth:=λc hc h0 B J=>by
   obtain⟨x3,x4,x5,x6⟩:=W5 c (u2 c hc h0 J) h0;show"#%"
  have h7:rl r1=.rO root:=by rw[SL r1 v1.1 (GT sw.1) (GT SJ.1) (GT sy.1),m_]
  have h8:rl f1=.rF root:=by rw[SL f1 v1.2.1 (GT sw.2.1) (GT SJ.2.1) (GT sy.2.1),GS (GT R1.rne.1),m_]
  have h9:rl p1=.rP root:=by rw[SL p1 v1.2.2 (GT sw.2.2) (GT SJ.2.2) (GT sy.2.2),GS (GT R1.rne.2),GS (GT R1.ne),m_]
  have b1:=px r1 v1.1;have b2:=px f1 v1.2.1;have b3:=px p1 v1.2.2;have h10:rl r2=.rO Bi:=by rw[SM r2 v2.1 (GT mo.1) (GT SK.1) (GT ma.1),GS (GT b1.1),GS (GT b2.1),GS (GT b3.1),m_]
  have h11:rl f2=.rF Bi:=by rw[SM f2 v2.2.1 (GT mo.2.1) (GT SK.2.1) (GT ma.2.1),GS (GT b1.2.1),GS (GT b2.2.1),GS (GT b3.2.1),GS (GT R2.rne.1),m_]
  have h12:rl p2=.rP Bi:=by rw[SM p2 v2.2.2 (GT mo.2.2) (GT SK.2.2) (GT ma.2.2),GS (GT b1.2.2),GS (GT b2.2.2),GS (GT b3.2.2),GS (GT R2.rne.2),GS (GT R2.ne),m_]
  have kr:kget pz! root=some (.fn r1):=by show y9!=_;rw[m_]
  have kb:kget pz! Bi=some (.fn r2):=by
   show y9_;rw[GS b0z,m_]
  have kr':kget px! root=some .non:=by show y9!=_;rw[m_]
  have kb':kget px! Bi=some .non:=by
   show y9_;rw[GS b0z,m_]
  exact{
      ob:=WV,d1:=⟨_,F1⟩,d2:=⟨_,F2⟩,d3:=⟨_,F3⟩,d4:=⟨_,F4⟩,d5:=⟨_,F5⟩,d6:=⟨_,F6⟩
      ro:=g0,r1:=g1,r2:=g2,r3:=g3,r4:=g4,r5:=g5,r6:=g6
      p0:=⟨kr',kb'⟩
      pr:=λi p h=>yU_
      row:=λx hx=>by
       obtain hx|rfl|rfl:=hx
       .simp[W0]at hx
       .exact⟨r1,f1,p1,kr,Q1,h7,h8,h9⟩
       .exact⟨r2,f2,p2,kb,Q2,h10,h11,h12⟩
      rown:=λx hx=>by
       unfold Ez at hx;rw[NV,NV]at hx;show(if root=x then _ else(if Bi=x then _ else _))=_;rw[GS (GT hx.2.1),GS (GT hx.2.2)];rfl
      txt:=λx hx=>kN_
      txtn:=λx _=>rfl
      num:=λx hx=>kN_
      l1:=by simp,l2:=by simp,l3:=by simp,l4:=by simp,l5:=by simp,l6:=by simp,lr:=by simp[W0],lt:=λx hx=>kN_
      live:=λc hc=>by
       by_cases y0:c=o
       .rw[y0];exact lo WV
       by_cases vd:c=a1
       .rw[vd];exact lo F1
       by_cases ve:c=a2
       .rw[ve];exact lo F2
       by_cases lu:c=a3
       .rw[lu];exact lo F3
       by_cases l8:c=a4
       .rw[l8];exact lo F4
       by_cases l9:c=a5
       .rw[l9];exact lo F5
       by_cases nh:c=a6
       .rw[nh];exact lo F6
       by_cases vf:c=r1
       .rw[vf];exact Q1.live.1
       by_cases W6:c=f1
       .rw[W6];exact Q1.live.2.1
       by_cases W7:c=p1
       .rw[W7];exact Q1.live.2.2
       by_cases W8:c=r2
       .rw[W8];exact Q2.live.1
       by_cases W9:c=f2
       .rw[W9];exact Q2.live.2.1
       by_cases XA:c=p2
       .rw[XA];exact Q2.live.2.2
       exfalso;apply hc;show pB_=_;rw[GS y0,GS vd,GS ve,GS lu,GS l8,GS l9,GS nh,GS vf,GS W6,GS W7,GS W8,GS W9,GS XA]}
 .obtain⟨d1,d2,d3,d4,d5,d6,d7,d8,d9,SN⟩:=dead b Y;refine⟨d1,?_⟩;show(if b=o then _ else _)=_;rw[GS d2,GS d3,GS d4,GS d5,GS d6,GS d7,GS d8,GS d9.1,GS d9.2.1,GS d9.2.2,GS SN.1,GS SN.2.1,GS SN.2.2]
end
def b8d{α β:Type}{f:li!}:∀{l:H_},(hJ_).Nodup->∀{x y:α},x∈l->y∈l->f x=f y->x=y
 |[],_,_,_,h,_,_=>by cases h
 |a::l,nd,x,y,hx,hy,e=>by
  rw[GY,HH]at nd;obtain B|B:=GR.mp hx<;>obtain J|J:=GR.mp hy
  .rw[B,J]
  .exact absurd (by rw[<-B,e];exact GV J) nd.1
  .exact absurd (by rw[<-J,<-e];exact GV B) nd.1
  .exact b8d nd.2 B J e
inductive Vp:OW->List Op->OW->Prop
 |nil {W:OW}:Vp W [] W
 |cons {W W1 W2:OW} {o:Op} {os:l!}:Sk W o.nm o.d W1->Vp W1 os W2->Vp W hu_ W2
def Pj(wd:g!)(os:l!):List Op:=os.filter λo=>decide (Gu o.d=none/\¬kget wd o.nm=some b7_)
section
variable{t:Ay}{M:Mh}{R:D->Mh->Prop}
def EF(t:Ay):WS:=Ah eN_ th!
def b1f{e0:Nat}{ops:l!}(hq:∀x∈ops,kget kq x.nm≠none↔Undn wd x):∀(os:l!) (x1:D) (y z:T_) (M:Mh) (rl:bB!) (W W':OW) (pre:a_) (hb:Nat) (R:p_),
  (∀x∈os,x∈ops/\DG x.d)->ze_->(pE!).Nodup->Ck t M o rl W hb->Vh W pre->Vp W pE_ W'->hb+20*L_<3900->M q=some (.dct kq e0)->rl q=.oth->
  (∀M' ah y' z',Ck t M' o ah W' (hb+20*L_)->zf!->Fr M rl M' ah->R (.nx [R_,G_,aW!,y',z']) M')->
  Gf P! Q! (EF t) ay_ [R_,G_,aW!,y,z] M R
 |[],x1,y,z,M,rl,W,W',pre,hb,R,_,_,_,hO,w,hr,_,_,_,hR=>by
  cases hr;exact⟨trivial,hR M rl y z hO ⟨pre,w⟩ .refl⟩
 |x::os,x1,y,z,M,rl,W,W',pre,hb,R,hd,hp,nd,hO,w,hr,hB,pv,j0,hR=>by
  refine aN!;show Ah (An 4 _) _ zh! M _;obtain⟨hx,ju⟩:=hd x GX;simp only[HA]at hB hR;rw[GY,HH]at nd;have es:En F_ Au c0_ zh!=some x.nm:=b5t x;obtain⟨kn,gb⟩:=a9d x;have j6:Hl true M x.nm bC!=some (.bl (!(kget kq x.nm).isSome)):=by simp[Hl,pv,gb]
  have f4:Aa 4 eh_=some x.nm:=rfl;have vp:Aa 2 eh_=some bC!:=rfl;have f1':Aa 1 eh_=some av!:=rfl;have f3':f2 Ai F_ ae! eh_=some x.d:=by
   show Ai x.v aA_=_;simp[Op.v,Ai,Da,Dx]
  show Av tf_ _ _ eh_ M _;simp only[Av,wT,w2,wl,f4,vp,j6];have hu:=hq x hx;have rest:∀(M1:Mh) (gk:bB!) (W1:OW) (xz:a_),Ck t M1 o gk W1 bj_->Vh W1 xz->(∀y∈os,y.nm∉xz)->Vp W1 pE_ W'->Fr M rl M1 gk->Gf P! Q! (EF t) ay_ eh_ M1 R:=λM1 gk W1 xz B J h3 h4 h5=>
   b1f (o:=o) (q:=q) (kq:=kq) (wd:=wd) (e0:=e0) hq os x1 pF! (some x.nm) M1 gk W1 W' xz bj_ R pF_ h3 nd.2 B J h4 a! ((zi_).1.trans pv) (zi_).2 (λM' ah y' z' g1 g2 g3=>hR M' ah y' z' (by rw[zj!];exact g1) g2 (h5.trans g3))
  by_cases c:kget kq x.nm=none
  .rw[c,gF_];have hc:∀(K:u_),Mt t [aL_,x.nm,x.d] M K->Ao 3 (Mt t) tg! eh_ M K:=λK h=>by
    exact cc_
   refine gQ (hc _ ?_);obtain⟨k,a,e,hk,_,ya⟩|⟨k,r,e,_,_,ya⟩:=tX ju
   .have:Pj wd hv!=Pj wd os:=by unfold Pj;rw[JJ (by simp[ya])]
    rw[this]at hr;rw[e];exact c2h hk (rest M rl W pre oq_ w pG_ hr .refl)
   .have hne:¬kget wd x.nm=some b7_:=λz=>absurd c (hu.mpr ⟨ya,z⟩);have:Pj wd hv!=x::Pj wd os:=by unfold Pj;rw[JI (by simp[ya,hne])]
    rw[this]at hr;cases hr with
    |cons hs hr=>
     have w1:=b5r hs w kX!;refine c2g hO w kX! hs a! λM1 gk B J=>rest M1 gk _ _ B w1 zk_ hr J;obtain z|z:=GZ.mp z
     .exact hp y cw_ z
     .rw[HI]at z;exact nd.1 zl!
  .have hU:=hu.mp c;obtain⟨v,hv⟩:=Option.ne_none_iff_exists'.mp c;rw[hv,an!];have:Pj wd hv!=Pj wd os:=by unfold Pj;rw[JJ (by simp[hU.1,hU.2])]
   rw[this]at hr;exact rest M rl W pre oq_ w pG_ hr .refl
def Ck.live{rl:bB!}{hb:Nat}(h:a5!)(Y:rl b≠.oth):M b≠none:=by obtain⟨_,_,_,_,_,_,_,_,_,_,_,_,hA⟩:=h;exact hA.live b Y
def Ck.keep{M':Mh}{rl:bB!}{hb:Nat}(hO:a5!)(k:zl_):Ck t M' o rl W hb:=by
 obtain⟨a1,a2,a3,a4,a5,a6,k1,k2,k3,k4,k5,k6,hA⟩:=hO;refine⟨a1,a2,a3,a4,a5,a6,k1,k2,k3,k4,k5,k6,{hA with ob:=?_,d1:=?_,d2:=?_,d3:=?_,d4:=?_,d5:=?_,d6:=?_,row:=?_,txt:=?_,num:=?_,live:=?_}⟩
 .rw[k o O_];exact hA.ob
 .rw[k a1 bT_];exact hA.d1
 .rw[k a2 av_];exact hA.d2
 .rw[k a3 aT_];exact hA.d3
 .rw[k a4 aU!];exact hA.d4
 .rw[k a5 aM_];exact hA.d5
 .rw[k a6 aw!];exact hA.d6
 .intro x hx;obtain⟨r',f',p',v1,v2,v3,v4,v5⟩:=hA.row x hx;exact zn!
 .intro x hx;obtain⟨r',f',p',v1,v2,v3,v4,v5⟩:=hA.txt x hx;exact zn!
 .intro x hx;obtain⟨q',v1,v2,v3⟩:=hA.num x hx;exact⟨q',v1,(k _ bF_).trans v2,v3⟩
 .intro b Y;rw[k b Y];show"#+"
def b3p{ops:l!}(nd:ee_)(nn:zo!)(hl:ef!)(hd:ho_)(hr:Vp W0 (Pj hp! aV_) W')
  (hR:∀o M' ah,M o=none->Ck t M' o ah W' 1500->zo_->(∀b,M b≠none->M' b=M b/\ah b=.oth)->R av! M'):Hy t ch_ M R:=by
 refine o_;show Ah te_ _ yT_ M _;simp only[Ah,An];refine a1s λo rl M1 ho hO fr=>?_;have hc:∀(K:u_),Lg ch_ M1 K->Ao 1 Lg bu! [eg!,G_,none,none,none] M1 K:=λK h=>cc_;refine hc _ (b2y nd hl hd λq M2 ep kq hq fw hkq vq=>?_);have hi:Eo iU_ zp!=some hm!:=a3j (lX nd hl);show Df (Lw _) _ (EF t) zp! M2 _;simp only[Df,Lw,hi,El];have hp:(aV_).Perm ops:=cG ops;have j0:rl q=.oth:=by
  by_cases z:rl q=.oth
  .exact z
  .obtain⟨_,_,_,_,_,_,_,_,_,_,_,_,hA⟩:=hO;exact absurd hq (hA.live q z)
 have hO2:Ck t M2 o rl W0 2:=hO.keep λc hc=>vq c (hO.live hc);have xu:∀x∈ops,kget kq x.nm≠none↔Undn hp! x:=λx hx=>by
  rw[hkq];show"!K"
  .rintro⟨y,hy,e,hu⟩;have:y=x:=b8d nn hy hx e;rw[<-this];exact hu
  .exact λh=>⟨x,hx,rfl,h⟩
 refine b1f (t:=t) (wd:=pw!) (e0:=ep) (ops:=ops) xu aV_ hp_ none none M2 rl W0 W' [] 2 _ (λx hx=>⟨hp.mem_iff.mp hx,hd x zp_⟩) zq! zq_ hO2 c5w hr kZ! fw j0 λM' ah y' z' g1 g2 g3=>?_;refine hR o M' ah ho (g1.mono kZ!) g2 λb Y=>?_;obtain⟨e1,e2⟩:=fr b Y;have e3:=vq b n7!;have g4:=g3 b zr! e2;exact⟨by rw[g4.1,e3,e1],g4.2⟩
def b9l(o:Op):∀{l:l!},Oi Op.key l->∃u v,l=u++v/\Qo Op.key o l=u++o::v/\(∀x∈u,Kl o.key x.key=false)/\∀x∈v,Kl o.key x.key=true
 |[],_=>⟨[],[],rfl,rfl,F!,F!⟩
 |y::l,h=>by
  unfold Oi at h;rw[JM]at h;unfold Qo;cases e:Kl o.key y.key with
  |true=>
   refine⟨[],y::l,rfl,rfl,F!,aS_⟩;obtain rfl|hx:=GR.mp hx
   .exact e
   .exact jO e (h.1 x hx)
  |false=>
   obtain⟨u,v,e1,e2,e3,e4⟩:=b9l o h.2;refine⟨y::u,v,by rw[e1];rfl,by rw[e2];rfl,aS_,e4⟩;obtain rfl|hx:=GR.mp hx
   .exact e
   .exact e3 x hx
def d2k(a b c d:Int):HT.lexLt al! [c,d]=Kl Z_ (c,d):=by
 rw[KF,tW,HT.lexLt_cons];by_cases h:a=c
 .rw[HB h,HT.lexLt_cons];by_cases h':b=d
  .rw[HB h'];simp[HT.lexLt_nil_nil];omega
  .rw[GS h',IF];dsimp only;omega
 .rw[GS h,IF];dsimp only;omega
def Ym(l:l!)(o:Op):Nat->Bool
 |0=>false
 |j+1=>match l[j]? with|some f=>Kl o.key f.key|none=>false
def BD:Ad->Option Bool:=Cp ut_ uu!
def b1n{l:l!}{o:Op}{k:Nat}(hk:k<=Y!):BD [M!,zs!,Z!,kZ_]=some (Ym l o k):=by
 cases k with
 |zero=>simp[BD,Cp,fT,f2,Aa,fC,Jf,Ce,Ym]
 |succ j=>
  have hj:j<Y!:=hk;have e1:l[j]?=some l[j]:=HJ hj;have e2:Da (l.map Op.v) hw!=some (cl!).v:=by
   unfold Da Dx;simp[hj]
  have e3:Lk 1 jk_ pI!=some (cl!).v:=by
   have:zt! - 1=(j:Nat):=by omega
   simp[Lk,f2,Aa,fC,Do,Ce,this,e2]
  have e4:Ai (cl!).v bs!=some (.int (cl!).tm):=by simp[Op.v,Ai,Da,Dx]
  have e5:Ai (cl!).v K!=some (.int (cl!).h):=by simp[Op.v,Ai,Da,Dx]
  have e6:Ai o.v bs!=some ei!:=by simp[Op.v,Ai,Da,Dx]
  have e7:Ai o.v K!=some bH_:=by simp[Op.v,Ai,Da,Dx]
  have e8:Zz (.tup [.int (cl!).tm,.int (cl!).h]) yz!=some (.bl (Kl o.key (cl!).key)):=by
   simp[Zz,Ro,d2k,Op.key]
  have e9:Jf pH_ K!=some A!:=by simp[Jf,Ce]
  have f3:Aa 3 pI!=some pH_:=rfl;have vp:Aa 2 pI!=some o.v:=rfl;simp only[BD,Cp,fT,f2,f3,fC,LV,e9,As,Ab,Af,e3,e4,e5,vp,e6,e7,IU,HA,KD,show(0+1+1:Nat)<=1000 by omega,e8,Ym,e1]
def a5m{o:Op}{u v:l!}(B:∀x∈u,Kl o.key x.key=false)(J:∀x∈v,Kl o.key x.key=true)(R:p_)(hR:R (.nx k0!) M):
  ∀(m:Nat),m<=v.length->∃n,Ch (Dh BD) nu_ n [M!,pJ_,Z!,some (.int pK_)] M R
 |0,hm=>by
  refine fa!;have et:=b1n (x0:=x0) (o:=o) (l:=u++v) (k:=bX_) c_;have ef:Ym bh! o bX_=false:=by
   cases hu:bX_ with
   |zero=>rfl
   |succ j=>
    have:bh![j]?=some (u[j]' a!):=by rw[JQ a!,HJ a!]
    simp only[Ym,this];exact B _ hw_
  rw[ef]at et;simp only[Ch,Dh,QP,et];exact hR
 |m+1,hm=>by
  obtain⟨n,hn⟩:=a5m B J R hR m a!;refine⟨n+1,?_⟩;have et:=b1n (x0:=x0) (o:=o) (l:=u++v) (k:=bX_+(m+1)) bL!;have ef:Ym bh! o (bX_+(m+1))=true:=by
   show Ym bh! o (bX_+m+1)=true;have:bh![bX_+m]?=some (v[m]' a!):=by rw[IV a!,show u.length+m - u.length=m by omega,HJ a!]
   simp only[Ym,this];exact J _ hw_
  rw[ef]at et;have es:f2 Do F_ r! [M!,pJ_,Z!,some (.int pL!)]=some (.int pK_):=by
   have:pL! - 1=pK_:=by omega
   show Do (.int pL!) aI!=_;simp only[Do,Ce,this]
  simp only[Ch,Dh,et,IU,An,wl,es];exact hn
def FE:WS:=Ah ut! (Ah (Fj (Dh BD) nu_) uv!)
def b1o:∀(os:l!) (x0:D) (y z:T_) (acc:l!) (R:p_),Oi Op.key acc->((acc++os).map Op.key).Nodup->ck_+L_<1000->
  (∀dq y' z',Oi Op.key dq->dq.Perm (acc++os)->R (.nx [M!,some (.lst (dq.map Op.v)),y',z']) M)->Gf be! Q! FE ay_ [M!,hx!,y,z] M R
 |[],x0,y,z,acc,R,hs,nd,hl,hR=>⟨trivial,hR acc y z hs c_⟩
 |o::os,x0,y,z,acc,R,hs,nd,hl,hR=>by
  refine aN!;show Ah (An 3 _) _ pM! M _;obtain⟨u,v,e1,e2,e3,e4⟩:=b9l o hs;simp only[HA]at hl;have el:Nq dI! pM!=some zw_:=by
   have:f1 Bk b5! pM!=some zw_:=by
    show Bk [.lst zv_]=_;simp[Bk]
   unfold Nq;rw[this];rfl
  simp only[Ah,An,wl,el];have ar:ck_=bX_+v.length:=by rw[e1,HE]
  rw[ar,e1];refine a5m e3 e4 _ ?_ v.length x_;have ei:Vw 1 F_ v! k0!=some (.nx [M!,some (.lst ((k1_).map Op.v)),Z!,some pJ!]):=by
   have:(bh!).length<big:=by unfold big;rw[HE];omega
   have e3:Aa 3 k0!=some pJ!:=rfl;have e2:Aa 2 k0!=some o.v:=rfl;unfold Vw;show(if 0<=(pK!:Int)/\(pK!:Int).toNat<=(pI_).length/\(pI_).length<big then _ else none)=_;rw[HB ⟨u!,F!,by rw[HG];exact this⟩];simp
  simp only[Rq,ei,El];have hp:(k1_).Perm (acc++[o]):=by rw[e1];simpa using(List.perm_middle (a:=o) (l₁:=u) (l₂:=v)).trans (List.perm_append_comm (l₁:=[o]) (l₂:=u++v))
  have cn:Oi Op.key k1_:=by
   rw[<-e2];refine wK hs λy hy=>?_;rw[HU,IG]at nd;exact λz=>nd.2.2 _ (GV hy) o.key c_ z.symm
  have f7:((u++o::v++os).map Op.key).Nodup:=by
   have:(u++o::v++os).Perm (acc++o::os):=by
    have:=hp.append_right os;show"#5"
   exact(this.map _).nodup_iff.mpr nd
  exact b1o os x0 _ _ k1_ R cn f7 (by have:=hp.length_eq;simp at this;simp;omega) λdq y' z' B J=>hR dq y' z' B (J.trans (by have:=hp.append_right os;simpa using this))
def vB{ops:l!}(nd:ee_)(hl:ef!)(hR:R (.lst hm!) M):Fo ch_ M R:=by
 refine o_;show Ah gh_ (Ah (Df (Lw eN!) be! FE) b6!) zy! M _;have e1:Ir 1 Af zy!=some (.nx zy_):=by simp[Ir,Af]
 have e2:Eo l_ zy_=some cJ!:=rfl;refine b1o ops _ none none [] _ (jp!) (by simpa using nd) bL! λdq y' z' B J=>?_;have:dq=Ig ops:=oH B (jG nd) (by simpa using J.trans (by simpa using(cG ops).symm));rw[this];exact hR
def a6t{neg:Bool}:Hl neg M V! oS!=some (.bl (if neg then ! oS_ else oS_)):=by show Hl.inS neg M V! oS!=_;simp[Hl.inS,Rs,Bd,Bx,Gs,Dq,a3o]
def FG:WS:=Av ux! ux_ By
def d1n{o:Op}(ho:DG o.d):∃k r,o.d=.tup dp!/\(Gu o.d=none->hl!=false/\(k=="redo")=false)/\(∀u,Gu o.d=some u->r=[u.2]/\k=u.1/\yx_/\NameG u.2):=by
 obtain⟨k,a,e,hk,f8,hu⟩|⟨k,r,e,B,J,hu⟩:=tX ho
 .exact⟨k,[a],e,(λz=>by rw[z]at hu;cases hu),(λu vt=>by rw[hu]at vt;cases vt;exact⟨rfl,rfl,hk,f8⟩)⟩
 .exact⟨k,r,e,(λ_=>pO!),(λu vt=>by rw[hu]at vt;cases vt)⟩
def b9g{o:Op}(e:o.d=.tup dp!):pp!=some V!:=by
 have e3:Ai o.v aA_=some o.d:=by simp[Op.v,Ai,Da,Dx]
 rw[e3,e];show Da (D.str k::r) 0=_;unfold Da Dx;simp
def b0l{k:Str}(hk:yu_):pO_=true:=by
 obtain rfl|rfl:=hk
 .rw[yE_];rfl
 .rw[yF!];simp
def a1w:∀(os:l!) (x1:D) (y:T_) (acc:g!) (ep:Nat) (M:Mh) (R:p_),pr_->ck_+L_<1000->M p=some ps!->
  (∀M' be y',M' p=some (.dct (Ny pq! os acc) be)->fr!->R yI! M')->
  Gf be! Q! FG ay_ pr! M R
 |[],x1,y,acc,ep,M,R,_,_,hp,hR=>yH_
 |o::os,x1,y,acc,ep,M,R,hd,hl,hp,hR=>by
  refine aN!;show FG bW! M _;show Av _ _ _ bW! M _;have ho:=hd o GX;simp only[HA]at hl;obtain⟨k,r,e,hn,hs⟩:=d1n ho;have i0:f2 Ai a1_ D_ bW!=some V!:=b9g e;simp only[Av,wT,w2,wl,i0,fC,a6t];cases hu:Gu o.d with
  |none=>
   obtain⟨B,J⟩:=hn hu;have:pO_=false:=by rw[zA!,zA_,B,J];rfl
   rw[this];exact a1w (p:=p) os x1 ef_ acc ep M R ho! a! hp yM_
  |some u=>
   obtain⟨g1,g2,hk,f8⟩:=hs u hu;rw[b0l hk];obtain⟨ka,lj⟩:=zD f8;have i1:f2 Ai a1_ r! bW!=some u.2:=by
    have e3:Ai o.v aA_=some o.d:=by simp[Op.v,Ai,Da,Dx]
    show yJ_;rw[e3,e,g1];show Da [D.str k,u.2] 1=_;simp[Da,Dx]
   have i2:f2 Bb gn_ iU! bW!=some fq_:=by
    show(f2 Ai a1_ D_ bW!).bind (λx=>Bb x b7_)=_;rw[i0];exact gG k _
   have ig:=gL (y:=u.2) (v:=.bl hl!) hp lj hc_;have:=a1w (p:=p) os x1 ef_ zC! zC_ (Az M p (.dct zC! zC_)) R ho! (by have:=kput_len acc u.2 fq_;omega) mup_same (λM' be y' B J=>hR M' be y' (by
    unfold Ny;rw[hu];obtain⟨u1,u2⟩:=u;dsimp only at g2 B ⊢;rw[<-g2];exact B) λb Y=>(J b Y).trans fr_)
   simp only[Cd,wl,i1,i2,d1p,ig,El];show"#;"
def a9l{ops:l!}(nd:ee_)(hl:ef!)(hd:ho_)
  (hR:∀p M' ep,M p=none->M' p=some (.dct (Ny pq! aV_ []) ep)->fr!->R C_ M'):Lp ch_ M R:=by
 refine o_;intro p hp;have b6:(aV_).Perm ops:=cG ops;have hc:∀(K:u_),Fo ch_ dt! K->Ao 1 Fo bu! pt! dt! K:=λK h=>cc_;refine hc _ (vB nd hl ?_);exact a1w (p:=p) aV_ hp_ none [] 0 dt! _ yN_ yO! mup_same yO_
end
def Bj(q:D×D):D:=.tup [q.1,q.2]
def Bc(q:e8_):D:=.tup [q.1,q.2.1,.bl q.2.2]
inductive LR
 |w|wt|wn|q (x:D)|oth
nonrec def k3(rows wt wn:D):List ax_:=[(.str "rows",rows),(.str "texts",wt),(.str "numbers",wn)]
section
variable{a b c v:D}
def c5c:¬(D.str dk!=D.str dZ!):=λz=>absurd pP_ v_
def c5d:¬(D.str dk!=D.str e9!):=λz=>absurd pP_ v_
def c5a:¬(D.str dZ!=D.str e9!):=λz=>absurd pP_ v_
def k3r:kget hx_ eX!=some a:=by show bY!=_;rw[m_]
def k3t:kget hx_ uI_=some b:=by show zE!=_;rw[GS c5c,m_]
def k3n:kget hx_ uO_=some c:=by show(if _ then _ else zE!)=_;rw[GS c5d,GS c5a,m_]
def k3p:Aq hx_ eX! v=k3 v b c:=by show bY!=_;rw[m_];rfl
end
def pM{g:D->D}:∀{its:a_} {x:D},kget k2_ x=if x∈its then some (g x)else none
 |[],x=>by simp[kget]
 |i::its,x=>by
  rw[GY];unfold kget;by_cases e:i=x
  .subst e;simp
  .rw[GS e,pM];simp[GT e]
def a6a{g:D->D}{v:D}:∀{its:a_},its.Nodup->x∈its->Aq k2_ x v=its.map λi=>(i,if i=x then v else g i)
 |[],_,h=>by cases h
 |i::its,nd,h=>by
  rw[HH]at nd;rw[GY,GY];unfold Aq;by_cases e:i=x
  .subst e;simp only[IU];congr 1;apply JS;intro j hj;rw[GS λz:j=i=>nd.1 (z▸hj)]
  .rw[GS e];simp only[e,IN];rw[a6a nd.2 ((GR.mp h).resolve_left (GT e))]
def zI{g:D->D}{v:D}{its:a_}(h:x∉its):Aq k2_ x v=k2_++[(x,v)]:=iK (by rw[JD];simpa using h)
structure Uh(M:Mh)(w:xK!)(rl:dt_)(W:OW)(wt wn:xK!)(qa:D->Addr):Prop where
 mw:∃e,M w=some (.dct hz! e)
 mt:∃e,M wt=some (.dct pQ_ e)
 mn:∃e,M wn=some (.dct (W.its.map λi=>(i,.fn fw_)) e)
 mq:∀i∈W.its,M fw_=some (.lst jX_)/\rl fw_=.q i
 rw_:rl w=.w
 rt:rl wt=.wt
 rn:rl wn=.wn
 live:∀b,rl b≠.oth->M b≠none
def Br(M:Mh)(w:xK!)(rl:dt_)(W:OW):Prop:=∃wt wn qa,Uh M w rl W wt wn qa
def Si(M:Mh)(rl:dt_)(M':Mh)(ah:dt_):Prop:=∀b,M b≠none->rl b=.oth->M' b=M b/\ah b=.oth
def Si.refl{M:Mh}{rl:dt_}:Si M rl M rl:=λb _ h=>cc_
def Si.trans{M M1 M2:Mh}{rl gk u9:dt_}(B:Si M rl M1 gk)(J:Si M1 gk M2 u9):Si M rl M2 u9:=λb Y hr=>by
 show"!q"
section
variable{M:Mh}{R:D->Mh->Prop}{w:xK!}{rl:Addr->LR}{W:OW}{ρ:Ad}
def mV{ep:Nat}(h:bU_)(hk:cg!):Co M C_ y=kget kvs y:=by simp[Co,h,hk]
def ixw{ep:Nat}{v:D}(h0:Aa 0 ρ=some C_)(h:bU_)(hv:kget kvs aV!=some v)(K:u_):w2 Co j_ (wl (fC aV!)) ρ M K=K v M:=by have:Co M C_ aV!=some v:=(mV (k:=some (.inl (.inr s))) h rfl).trans hv;simp only[w2,wl,h0,fC,this]
def a3b{q:D×D}:Ai ej! K!=some q.1:=by simp[Bj,Ai,Da,Dx]
def a3a{q:D×D}:Ai ej! aI!=some q.2:=by simp[Bj,Ai,Da,Dx]
def tN{W:OW}(w:Bu W):∀q∈W.rows,He q.1/\Sd q.2/\Ez W q.2:=λq hq=>⟨w.nm _ ((w.ri q.1).mp (GV hq)),a3f w (w.rp q.1 q.2 hq),w.rp q.1 q.2 hq⟩
def a4e(h:aa!)(wi:Bu W)(hx:Sd x)(hl:ap!<5000)(hR:wb!):Il [bY_,x] M R:=by
 show"!y";obtain⟨e,hw⟩:=hA.mw;refine o_;show Bn pR! [B!,bD!] M _;simp only[Bn,Dt,Ds,ixw (ρ:=[B!,bD!]) rfl hw k3r];refine fx!;refine eE (λd=>match d with|.tup [_,p]=>decide (p=x)|_=>false) (λd=>match d with|.tup [i,_]=>i|_=>.non) trivial _ _ fx_ ?_
 .obtain⟨q,hq,rfl⟩:=HK.mp hd;obtain⟨B,J,_⟩:=tN wi q hq;refine zH!
  .have e1:fT u6! ej_=some zH_:=by
    have:f2 Bb b4! w! ej_=some (.bl zH_):=by
     show(Ai ej! aI!).bind zI!=_;rw[a3a];exact pU J hx
    show"!w"
   simp only[Dh,e1];exact hK
  .have e1:f2 Ai l_ D_ ej_=some q.1:=a3b;exact hK
 .have e2:(((k3!).filter λd=>match d with|.tup [_,p]=>decide (p=x)|_=>false).map λd=>match d with|.tup [i,_]=>i|_=>.non)=chl W.rows x:=by
   rw[PM,JD];rfl
  rw[e2];exact hR
end
def b4v(ha:Sd a)(Y:Sd b)(hc:Sd c)(hd:Sd d):Bb hz_ (.tup [c,d])=some (.bl (decide (a=c/\b=d))):=by
 unfold Bb;have d1:=oA ha;have d2:=oA Y;have e:Dy hz_ (.tup [c,d])=decide (a=c/\b=d):=by
  simp only[Dy,Ih,lY ha hc,lY Y hd,Bool.and_true];by_cases B:a=c<;>by_cases J:b=d<;>simp[B,J]
 rw[e];simp only[Bd,Bx,eR ha,eR Y,eR hc,eR hd,Gs,Dq,Bool.and_true,Bool.true_and];rw[HB bL!]
def c0n{xs:a_}{k:Nat}(h:k<=i!):Bg N! none k5!=some (.lst (xs.take k)):=by
 have e:HT.sIx xs.length xs.length k5!=k:=by rw[HT.sIx_nat];omega
 simp only[Bg];congr 2;unfold Db;rw[e,HT.sIx_none];simp
def a7j{xs:a_}{k:Nat}(h:k<=i!):Bg N! k5! none=some (.lst (xs.drop k)):=by
 simp only[Bg];congr 2;have e:HT.sIx xs.length 0 k5!=k:=by rw[HT.sIx_nat];omega
 have e2:HT.sIx xs.length xs.length none=i!:=rfl;unfold Db;rw[e,e2,PB c_]
section
variable{M:Mh}{R:D->Mh->Prop}{w:xK!}{rl:Addr->LR}{W:OW}{ρ:Ad}
def CM:Ad->Option Bool:=Cp uy_ uz_
def c3v{rs:g!}{k:Nat}(hk:k<=ar_)(hl:ar_<5000)(jh:zI_)(hp:Sd p):CM bZ!=some zJ!:=by
 have el:f1 Bk gl_ bZ!=some k5_:=by
  show zJ_;simp[Bk]
 by_cases c:k<ar_
 .have e1:rs[k]?=some rs[k]:=HJ c;have ea:Da ek! a9!=some k6!:=by
   unfold Da Dx;simp[c]
  have e3:f2 Ai G! C! bZ!=some k6!:=ea;have e4:Je hv_ k5_=some A!:=by simp[Je,Ce];exact c
  have e6:Fb (fy!).2 p=some zK!:=a1n (jh _ hw_).2 hp;have e7:f2 Fb uz! v! bZ!=some zK!:=by
   show((f2 Ai G! C! bZ!).bind λx=>Ai x aI!).bind (λz=>Fb z p)=_;rw[e3];show(Ai k6! aI!).bind _=_;rw[a3a];exact e6
  have e8:f2 Je C! eX_ bZ!=some A!:=by
   show zK_;rw[el];exact e4
  simp only[CM,Cp,fT,e8,e7,LV,IU,e1]
 .have e1:rs[k]?=none:=JE a!;have e4:Je hv_ k5_=some ah_:=by simp[Je,Ce];omega
  have e8:f2 Je C! eX_ bZ!=some ah_:=by
   show zK_;rw[el];exact e4
  simp only[CM,Cp,fT,e8,LV,e1];rfl
def c0r{rs:g!}{k:Nat}(hk:k<ar_)(h:chl pS! p=[])(hp:(fy!).2≠p):chl (rs.take Q_) p=[]:=by rw[NK hk,eF,h];rw[sV hp];rfl
def a6v{rs:g!}(hl:ar_<5000)(jh:zI_)(hp:Sd p)(R:p_)(hR:∀k:Nat,k<=ar_->chl pS! p=[]->R (.nx bZ!) M):
  ∀(m k:Nat),ar_ - k=m->k<=ar_->chl pS! p=[]->∃n,Ch (Dh CM) uA! n bZ! M R
 |m,k,hm,hk,hc=>by
  have et:=c3v (x0:=x0) (i:=i) (s:=s) (y:=y) hk hl jh hp;by_cases c:k<ar_/\(rs[k]?.map s_)≠some p
  .obtain⟨c1,c2⟩:=c;have e1:rs[k]?=some rs[k]:=HJ c1;rw[e1]at et c2;have c3:(fy!).2≠p:=λz=>c2 (by rw[<-z];rfl);rw[show(match(some rs[k]:Option ax_)with|some q=>!decide (q.2=p)|none=>false)=true by simp[c3]]at et;cases m with
   |zero=>omega
   |succ m=>
    obtain⟨n,hn⟩:=a6v hl jh hp R hR m Q_ a! a! (c0r c1 hc c3);refine⟨n+1,?_⟩;have es:f2 Al C! r! bZ!=some pS_:=by
     show pT!;simp[Al]
    simp only[Ch,Dh,et,IU,An,wl,es];exact hn
  .refine fa!;have ef:zJ!=false:=by
    cases e:rs[k]? with
    |none=>rfl
    |some q=>
     have c1:k<ar_:=(HC.mp e).1;have:q.2=p:=by
      by_cases z:q.2=p
      .exact z
      .exact absurd ⟨c1,by rw[e];simp[z]⟩ c
     simp[this]
   rw[ef]at et;simp only[Ch,Dh,et];exact hR k hk hc
def FJ:WS:=Av uC_ uD! By
def FR(rs:g!)(s p:D)(k0 k at_:Nat):Prop:=(at_=k0/\∀j<k,rs[j]?≠some dh_)\/∃j<k,rs[j]?=some dh_/\at_=j+1
def a9s{rs:g!}{k0:Nat}(hl:ar_<5000)(jh:∀q∈rs,Sd q.1/\Sd q.2/\q.1≠.non)(hp:Sd p)(hs:Sd s)(R:p_)(hR:∀(a:Nat) y,FR rs s p k0 rs.length a->R (.nx zL!) M):
  ∀(m k a:Nat) (y:T_),ar_ - k=m->k<=ar_->FR rs s p k0 k a->Gf c7_ Q! FJ zL_ zL! M R
 |0,k,a,y,hm,hk,ha=>⟨trivial,hR a y (by rw[show rs.length=k by omega];exact ha)⟩
 |m+1,k,a,y,hm,hk,ha=>by
  have c1:k<ar_:=by omega
  refine aN!;show FJ ek_ M _;have e1:rs[k]?=some rs[k]:=HJ c1;obtain⟨q1,q2,q3⟩:=jh rs[k] hw_;have ea:f2 Ai G! aI_ ek_=some k6!:=by
   show Da ek! a9!=_;unfold Da Dx;simp[c1]
  have et:f2 Bb uB! uB_ ek_=some (.bl (decide ((fy!).1=s/\(fy!).2=p))):=by
   show(f2 Ai G! aI_ ek_).bind (λz=>Bb z (.tup [s,p]))=_;rw[ea];exact b4v q1 q2 hs hp
  have en:f2 Ap F_ bT! ek_=some (.bl (!Ci s)):=rfl;have cond:Cp uA_ uC! ek_=some (decide (rs[k]=dh_)):=by
   simp only[Cp,fT,en,et,LV];by_cases z:s=.non
   .rw[show Ci s=true from zN.mpr z];have:¬rs[k]=dh_:=λy=>q3 wR_;simp[this]
   .rw[jR z];simp only[OH,IU];congr 1;rw[decide_eq_decide];exact⟨λy=>Prod.ext y.1 y.2,λy=>by rw[y];exact bL_⟩
  have es:f2 Al aI_ r! ek_=some pS_:=by
   show pT!;simp[Al]
  by_cases z:rs[k]=dh_
  .refine zM_;exact a9s hl jh hp hs R hR m Q_ Q_ _ a! a! (.inr ⟨k,u!,by rw[e1,z],rfl⟩)
  .refine iP zN! ?_;refine a9s hl jh hp hs R hR m Q_ a _ a! a! ?_;obtain⟨B,J⟩|⟨j,B,J,h3⟩:=ha
   .refine .inl ⟨B,j5_⟩;by_cases y:j=k
    .rw[y,e1];exact λx=>z (IR x)
    .exact J j a!
   .exact zN_
def Uh.setRows{qa:D->Addr}{rows':g!}{e:Nat}(hA:zO!):Uh (Az M w pU!) w rl {W with rows:=rows'} wt wn qa/\Si M rl (Az M w pU!) rl:=by
 have aw:∀b,rl b≠.w->Az M w pU! b=M b:=λb Y=>mup_ne λz=>Y (by rw[z];exact hA.rw_);refine⟨⟨jZ!,?_,?_,fn_,hA.rw_,hA.rt,hA.rn,bq_⟩,zS!⟩
 .rw[aw wt pU_];exact hA.mt
 .rw[pV_];exact hA.mn
 .show"#2"
 .by_cases z:b=w
  .rw[z,mup_same];simp
  .rw[j2_];show"#+"
def a7t(h:aa!)(jh:∀q∈W.rows,Sd q.1/\Sd q.2/\q.1≠.non)(hi:Sd i)(hp:Sd p)(hs:Sd s)(hl:ap!<4000)
  (hR:∀M' rows',Qt W.rows i p s rows'->Br M' w rl {W with rows:=rows'}->Si M rl M' rl->R .non M'):Ga [bY_,i,p,s] M R:=by
 show"!y";obtain⟨e,hw⟩:=hA.mw;refine o_;show Ah (An 4 pR!) _ zS_ M _;simp only[Ah,An,Dt,Ds,ixw (ρ:=zS_) rfl hw k3r];refine fx!;have sub:∀q∈wo W.rows i,q∈W.rows:=λq hq=>(nY_).1;have lw:(kh_).length<=ap!:=PL _ _;refine eE (λd=>match d with|.tup [a,_]=>!decide (a=i)|_=>false) id trivial _ _ fx_ ?_
 .obtain⟨q,hq,rfl⟩:=HK.mp hd;obtain⟨B,_,_⟩:=jh q hq;refine⟨pW_,rfl,λK hK=>?_,λ_ K hK=>hK⟩;have e1:fT uy! pW_=some zU!:=by
   have:f2 Fb aP! w! pW_=some (.bl zU!):=by
    show(Ai ej! K!).bind (λz=>Fb z i)=_;rw[a3b];exact a1n B hi
   show"!w"
  simp only[Dh,e1];exact hK
 have e2:((k3!).filter λd=>match d with|.tup [a,_]=>!decide (a=i)|_=>false).map id=(kh_).map Bj:=by
  rw[List.map_id,PM];congr 1;apply NO;intro q _;simp[Bj]
 rw[e2];generalize XB:wo W.rows i=rs at *;have SQ:∀q∈rs,Sd q.1/\Sd q.2/\q.1≠.non:=λq hq=>jh q (sub q hq);refine a6v (M:=M) a! (λq hq=>⟨(SQ q hq).1,(SQ q hq).2.1⟩) hp _ (λk0 hk0 hc0=>?_) rs.length 0 a! a! (by rw[List.take_zero];rfl);have hr:Fc eX_ zW!=some ((List.range' 0 ar_).map λj=>D.int hw!):=by
  have:f1 Bk gl_ zW!=some k5_:=by
   show zJ_;simp[Bk]
  unfold Fc;rw[this];show(if -1000<=pX!/\pX!<=100000 then some (Cq (pX!).toNat)else none)=_;rw[a8_];simp[Cq,List.range_eq_range']
 simp only[Df,Lw,hr,El];refine a9s (M:=M) a! SQ hp hs _ (λa y ha=>?_) rs.length 0 k0 none a! a! zW_;have pf:a<=ar_:=by
  obtain⟨B,_⟩|⟨j,B,_,h3⟩:=ha<;>omega
 have ev:f2 Al uF! uF_ fy_=some k7!:=by
  have s1:En G! Au eY! fy_=some pX_:=c0n k7_;have s2:En G! eY! Au fy_=some zX_:=a7j k7_;have s3:Di uE_ fy_=some pY!:=rfl;have a1:Al pX_ pY!=some zY!:=by
   show he_;rw[k8_]
  have a2:Al zY! zX_=some k7!:=by
   show he_;rw[k8_];simp
  show((En G! Au eY! _).bind λx=>(Di _ _).bind λz=>Al x z).bind (λx=>(En G! eY! Au _).bind λz=>Al x z)=_;rw[s1,s3,s2];show(Al pX_ pY!).bind (λx=>Al x _)=_;rw[a1];exact a2
 have ig:Ki M cL! eX! k7!=some (Az M w (.dct (k3 k7! du! hy_) (Fx hz! eX! e))):=by
  rw[gL (k:=some (.inl (.inr "rows"))) hw rfl (by show 3<big;decide),k3p]
 have f0:Aa 0 fy_=some cL!:=rfl;obtain⟨g1,g2⟩:=hA.setRows (rows':=rs.take a++bA_::rs.drop a) (e:=Fx hz! eX! e);have fin:=hR _ zX! ⟨rs.take a,rs.drop a,by rw[XB,List.take_append_drop],rfl,?_⟩ zZ! g2
 .show Cd j_ jl! (wl _) fy_ M _;simp only[Cd,wl,ev,f0,fC,ig,El];exact fin
 .rw[XB];obtain⟨B,J⟩|⟨j,B,J,h3⟩:=ha
  .refine .inl ⟨cI_,by rw[B];exact hc0⟩;obtain⟨j,hj⟩:=LZ.mp oM_;exact J j (HC.mp hj).1 hj
  .refine .inr ⟨rs.take j,?_⟩;have hj:j<ar_:=(HC.mp J).1;rw[h3,NK hj,(HC.mp J).2]
def a9u{rows:g!}(nd:cH!):(rows.filter λq=>decide fz!)=match rows.find? zZ_ with|some q=>[q]|none=>[]:=by
 induction rows with
 |nil=>rfl
 |cons a r ih=>
  rw[GY,HH]at nd;by_cases e:a.1=x
  .rw[JI gW_,List.find?_cons_of_pos gW_];have:r.filter zZ_=[]:=by
    rw[List.filter_eq_nil_iff];intro q hq;simp only[IF];exact λz=>nd.1 (by rw[e,<-z];exact GV hq)
   rw[this]
  .rw[JJ gW_,List.find?_cons_of_neg gW_,ih nd.2]
def c4x{W:OW}(wi:Bu W)(h:a3_∈W.rows):pY_=[a3_]:=by
 rw[a9u wi.rnd];cases e:W.rows.find? λq=>decide fz! with
 |none=>have:=List.find?_eq_none.mp e a3_ h;simp at this
 |some q=>
  have B:=List.find?_some e;have J:=List.mem_of_find?_eq_some e;simp at B;have:q.2=p:=iL wi.rnd (by rw[<-B];exact J) h;obtain⟨a,b⟩:=q;dsimp only at B this ⊢;rw[B,this]
def c9n{W:OW}(wi:Bu W)(h:∀p,a3_∉W.rows):pY_=[]:=by rw[List.filter_eq_nil_iff];rintro⟨a,b⟩ hq;simp only[IF];exact λz=>h b vT!
def EH:WS:=Ah uG_
 (Ah uH!
 (An 1 gu_))
def zH(h:aa!)(wi:Bu W)(hl:ap!<5000)(hi:He i){rk:D->Nat}(ic:we_):∀(n:Nat) (x:D) (y:T_),rk x<n->Ez W x->∀(R':p_),(Wn W.rows i x->∀y',R' (.nx [B!,K_,K_,y']) M)->(¬Wn W.rows i x->R' (.rt ah_) M)->
   ∃m,Ch (Dh iP_) EH m fz_ M R'
 |0,x,y,hn,_,_,_,_=>by omega
 |n+1,x,y,hn,hx,R',r1,r2=>by
  obtain⟨wt,wn,qa,hA⟩:=id h;obtain⟨e0,hw⟩:=hA.mw;have sx:=a3f wi hx;have et:fT sN! fz_=some p0!:=by
   have:f2 Fb w! v! fz_=some (.bl p0!):=a1n sx hi.sd;show"!w"
  by_cases e:x=i
  .subst e;refine fa!;simp only[Ch,Dh,et];exact r1 .here y
  .rw[show p0!=true by simp[e]]at et;have body:∀(K:p_),(wf_->K (.rt ah_) M)->(∀p,a3_∈W.rows->K (.nx [B!,cB!,K_,some p0_]) M)->EH fz_ M K:=λK g1 g2=>by
    show Ah (An 3 pR!) _ fz_ M _;simp only[Ah,An,Dt,Ds,ixw (ρ:=fz_) rfl hw k3r];refine fx!;refine eE (λd=>match d with|.tup [a,_]=>decide (a=x)|_=>false) (λd=>match d with|.tup [_,p]=>p|_=>.non) trivial _ _ fx_ ?_
    .obtain⟨q,hq,rfl⟩:=HK.mp hd;obtain⟨B,_,_⟩:=tN wi q hq;refine zH!
     .have e1:fT uG! ej_=some (decide fz!):=by
       have:f2 Bb aP! w! ej_=some (.bl (decide fz!)):=by
        show(Ai ej! K!).bind zI!=_;rw[a3b];exact pU B.sd sx
       show"!w"
      simp only[Dh,e1];exact hK
     .have e1:f2 Ai l_ r! ej_=some q.2:=a3a;exact hK
    .have e2:(((k3!).filter λd=>match d with|.tup [a,_]=>decide (a=x)|_=>false).map λd=>match d with|.tup [_,p]=>p|_=>.non)=(pY_).map s_:=by
      rw[PM,JD];rfl
     rw[e2];by_cases c:∃p,a3_∈W.rows
     .obtain⟨p,hp⟩:=c;rw[c4x wi hp];refine iP rfl ?_;have e3:f2 Ai F_ D_ [B!,bD!,K_,some p0_]=some p:=rfl;exact g2 p hp
     .have c':∀p,a3_∉W.rows:=λp z=>c ⟨p,z⟩;rw[c9n wi c'];refine ifT rfl ?_;exact g1 c'
   obtain hx|hx:=hx
   .obtain⟨p,hp⟩:=a8k wi hx;have q:=uD wi.rnd hp e;have:=ic _ _ hp;have key:∀y',∃m,Ch (Dh iP_) EH m [B!,cB!,K_,y'] M R':=λy'=>zH h wi hl hi ic n p y' a! (wi.rp _ _ hp) R' wg_ (λz=>r2 λv=>z (q.mp v));obtain⟨m,hm⟩:=key (some p0_);refine⟨m+1,?_⟩;simp only[Ch,Dh,et,IU];exact body _ (λnt=>absurd hp (nt p)) λp' b6=>by rw[iL wi.rnd b6 hp];exact hm
   .have nt:∀p,a3_∉W.rows:=by
     obtain rfl|rfl:=hx
     .exact rB wi (b0w wi)
     .exact rB wi (c0z wi)
    refine fa!;simp only[Ch,Dh,et,IU];exact body _ (λ_=>r2 (b5i nt e)) (λp hp=>absurd hp (nt p))
def c1b(h:aa!)(wi:Bu W)(hl:ap!<5000)(hx:bC_)(hi:He i)(hR:∀b:Bool,(b=true↔Wn W.rows i x)->R bK_ M):Lq [bY_,x,i] M R:=by obtain⟨rk,ic⟩:=wi.rk;refine o_;exact zH h wi hl hi ic (rk x+1) x none a! hx _ (λz y'=>hR true ex!) (λz=>hR false ex!)
def c3s{neg:Bool}{ep:Nat}(h:bU_)(hk:cg!):Hl neg M y C_=some (.bl (if neg then !(hB_).isSome else(hB_).isSome)):=by simp[Hl,h,hk]
def c3q(hx:Sd x)(ha:Sd a)(Y:Sd b):Hl false M x hz_=some (.bl (decide (x=a\/x=b))):=by
 have d1:=oA ha;have d2:=oA Y;have e:((al!).any λd=>Dy d x)=decide (x=a\/x=b):=by
  simp only[LH,List.any_nil,Bool.or_false,lY ha hx,lY Y hx];by_cases B:a=x<;>by_cases J:b=x<;>simp[B,J,GT]<;>first|exact .inl B.symm|exact .inr J.symm|exact⟨λz=>B z.symm,λz=>J z.symm⟩|skip
 show Hl.inS false M x hz_=_;show(if Bd x&&Bx al!&&decide (Dq al!<=40)then some (D.bl (if false=true then _ else[a,b].any λd=>Dy d x))else none)=_;rw[HB (by simp[eR hx,Bx,eR ha,eR Y,Dq];omega),e];rfl
def d1y{g:ci_}{fx:e_}{fb:WE}(hx:fx ρ=some x)(K:u_):w2 g la! fb ρ M K=fb ρ M λy M2=>match g M2 x y with|some d=>K d M2|none=>False:=by simp only[w2,wl,hx]<;>rfl
def b5q{W:OW}:(kget bZ_ x).isSome=decide gR_:=by rw[pM];by_cases h:x∈W.its<;>simp[h]
def pQ{fx:e_}(h:aa!)(h0:hC!)(hx:fx ρ=some x)(hk:hk!)(K:u_):w2 a0! la! by! ρ M K=K (.bl (decide gR_)) M:=by obtain⟨wt,wn,qa,hA⟩:=h;obtain⟨e0,hw⟩:=hA.mw;obtain⟨e1,ht⟩:=hA.mt;have hi:=ixw (M:=M) (ρ:=ρ) (s:=ht!) h0 hw k3t;have e:=c3s (neg:=false) ht hk;rw[show(if false=true then _ else(kget bZ_ x).isSome)=decide gR_ from b5q]at e;rw[d1y hx,hi,e]
def a7s(h:aa!)(wi:Bu W)(hl:ap!<4000)(hi:Sd i)(hx:Sd x)(hs:Sd s)(cu:fa_)(hkx:od!)
  (hR:∀M' W',(d0!->∃rows',Qt W.rows i x s rows'/\W'={W with rows:=rows'})->(¬d0!->W'=W)->Br M' w rl W'->Si M rl M' rl->R .non M'):Ik [bY_,i,x,s] M R:=by
 refine o_;show Av (Gj (wT _) (Wu (wT _) (wT _))) _ By du_ M _;have g1:=pQ (ρ:=du_) (fx:=Aa 1) h rfl rfl cu;have g2:=pQ (ρ:=du_) (fx:=Aa 2) h rfl rfl hkx;have g3:∀K:D->Mh->Prop,w2 a0! I_ nx_ du_ M K=K (.bl p1!) M:=λK=>by
  have vp:Aa 2 du_=some x:=rfl;have:=c3q (M:=M) hx (iA "root") (iA "bin");simp only[w2,wl,vp,fC,this]
 have no:(¬d0!)->R .non M:=λc=>hR M W (λz=>absurd z c) (λ_=>rfl) h .refl;have XC:i∈W.its->Ez W x->Av uK! uL! By du_ M gS_:=λc1 c2=>by
  have hc:∀(K:u_),Lq [bY_,x,i] M K->Ao 3 Lq (Ac j_ iR!) du_ M K:=λK h=>cc_;refine hc _ (c1b h wi a! c2 (wi.nm i c1) λb Y=>?_);cases b with
  |true=>exact no λz=>z.2.2 (Y.mp rfl)
  |false=>
   have nw:¬Wn W.rows i x:=λz=>by have:=Y.mpr z;cases this
   have jl:∀(K:u_),Ga [bY_,i,x,s] M K->Ao 4 Ga uK_ du_ M K:=λK h=>cc_;simp only[OH,IU];refine gQ (jl _ (a7t h d2_ hi hx hs hl λM' rows' hg hL hF=>?_))
   .obtain⟨B,J,_⟩:=tN wi q hq;exact⟨B.sd,J,B.nn.1⟩
   .exact hR M' _ (λ_=>⟨rows',hg,rfl⟩) (λz=>absurd ⟨c1,c2,nw⟩ z) hL hF
 simp only[Av,Gj,Wu,wT,g1];by_cases c1:i∈W.its
 .rw[HY c1];simp only[IU,g2];by_cases c2:x∈W.its
  .rw[HY c2];exact XC c1 (.inl c2)
  .rw[HF c2];simp only[HX,IN,g3];by_cases c3:x=root\/x=Bi
   .rw[HY c3];exact XC c1 (.inr c3)
   .rw[HF c3];exact no λz=>z.2.1.elim c2 c3
 .rw[HF c1];exact no λz=>c1 z.1
end
def Wo:WS:=(Ah uN_
 (Ah nA!
 (Ah nC_
 nF_)))
def Wm:WS:=uQ!
def CB:WS:=uS!
def Sf:WS:=(Ah jp_
 (Ah (An 6 aP_)
 (Ah (Df nI! (Bq 7) CB)
 (Ah uU_
 uW_))))
def Wp:WS:=(Ah uY!
 (Ah jp_
 uY_))
abbrev knd(k:Str):Ad->Option Bool:=fT (f2 Bb bu_ (fC V!))
abbrev Tk:WT:=wT gB_
def c1z:Wi=Ah nz! (Ah nz_
 (Av z6! Wo (Av z6_ nG_ (Av z7! nH!
  (Av z7_ Wm z8!))))):=rfl
section
variable{M:Mh}{R:D->Mh->Prop}{w:xK!}{rl:Addr->LR}{W:OW}{ρ:Ad}{pre:List D}
def b8y(h:p2!):knd k' ρ=some kE_:=by
 have e:Ai ed_ K!=some V!:=by
  show pg!;unfold Da Dx;simp
 have:f2 Bb bu_ (fC pf_) ρ=some (.bl kE_):=by
  show((lb!).bind λx=>Ai x K!).bind (λx=>Bb x pf_)=_;rw[h];show(Ai ed_ K!).bind _=_;rw[e];exact gG k k'
 unfold knd fT;rw[this];rfl
def p1(h:z8_):f2 Ai v! r! ρ=some a:=by show(lb!).bind (λx=>Ai x aI!)=_;rw[h];exact ix1
def p2(h:Aa 2 ρ=some ph_):f2 Ai v! W_ ρ=some b:=by show(lb!).bind (λx=>Ai x bs!)=_;rw[h];exact ix2
def p3(h:Aa 2 ρ=some pi!):f2 Ai v! ae! ρ=some c:=by show(lb!).bind (λx=>Ai x aA_)=_;rw[h];exact ix3
def anF{ft:aj!}{fu:WT}{q1 q2:WS}{R:p_}(h:yo!)(k:hj_):Av z9_ q1 q2 ρ M R:=by simp only[Av,Gj,Dh,h];exact k
def anT{ft:aj!}{fu:WT}{q1 q2:WS}{R:p_}{b:Bool}(h:yn_)(hu:∀K:Bool->Mh->Prop,K b M->fu ρ M K)(k1:Aa!)(k2:Aa_):Av z9_ q1 q2 ρ M R:=by
 simp only[Av,Gj,Dh,h,IU];refine hu _ ?_;cases b with
 |true=>rw[m_];exact k1 rfl
 |false=>rw[an!];exact k2 rfl
def a3i(h:aa!)(h0:hC!)(J:z8_)(hk:dn_)(K:fq!)(hK:K (decide (a∈W.its)) M):Tk ρ M K:=by unfold Tk wT;rw[pQ h h0 (p1 J) hk];exact hK
def Cv.sd(h:Cv x):Sd x:=by
 obtain rfl|rfl|⟨a,b,rfl,_⟩:=h
 .exact iA _
 .exact iA _
 .exact .inr oa!
def Mb.sd(h:Mb x):Sd x:=by
 obtain rfl|⟨a,b,rfl,_⟩:=h
 .exact cT!
 .exact .inr oa!
def Kf.sd(h:Kf x):Sd x:=by
 obtain rfl|⟨a,b,c,rfl,_⟩:=h
 .exact cT!
 .exact .inr wc!
def Uh.setTx{qa:D->Addr}{l:ak!}{e:Nat}(hA:zO!)(nd:nX_)(ha:dY!):Uh (Az M wt p2_) w rl n3_ wt wn qa/\Si M rl (Az M wt p2_) rl:=by
 have aw:∀b,rl b≠.wt->Az M wt p2_ b=M b:=λb Y=>mup_ne λz=>Y (by rw[z];exact hA.rt);refine⟨⟨?_,eW_,?_,fn_,hA.rw_,hA.rt,hA.rn,bq_⟩,zS!⟩
 .rw[aw w p3!];exact hA.mw
 .rw[mup_same,a6a nd ha];congr 2;apply JS;intro i _;show(i,if i=a then D.lst lc! else D.lst k4!)=(i,D.lst ((if i=a then l else W.txt i).map Bc));split<;>rfl
 .rw[pV_];exact hA.mn
 .show"#2"
 .by_cases z:b=wt
  .rw[z,mup_same];simp
  .rw[j2_];show"#+"
def c0c{p v:Int}{R:p_}(h:aa!)(wi:Bu W)(ha:dY!)(hk:dn_)(h0:hC!)(J:Aa 2 ρ=some kC_)(p0:0<=p)(s9:p<=3)
  (hR:∀M',Br M' w rl (Sw W a kD!)->Si M rl M' rl->R ap_ M'):Wm ρ M R:=by
 obtain⟨wt,wn,qa,hA⟩:=h;obtain⟨e0,hw⟩:=hA.mw;obtain⟨e2,hn⟩:=hA.mn;obtain⟨hq,j0⟩:=hA.mq a ha;have hi:=ixw (M:=M) (ρ:=ρ) (s:=pz_) h0 hw k3n;have hg:Co M hy_ a=some p4!:=by rw[mV hn hk,pM,HB ha]
 have hx:Dx (W.num a).length p=some p.toNat:=by
  rw[wi.nl a ha];unfold Dx;rw[HB p0,a8_]
 have ig:Ki M p4! (.int p) (.int v)=some (Az M (qa a) (.lst kD!)):=by simp[Ki,hq,hx]
 have aw:∀b,rl b≠.q a->Az M (qa a) (.lst kD!) b=M b:=λb Y=>mup_ne λz=>Y wi_;have fin:=hR _ ⟨wt,wn,qa,⟨by rw[aw w p3!];exact hA.mw,by rw[aw wt pU_];exact hA.mt,by rw[pV_];exact hA.mn,λi hi=>by
   by_cases c:i=a
   .subst c;refine⟨?_,j0⟩;rw[mup_same];simp[Sw]
   .obtain⟨g1,g2⟩:=hA.mq i hi;refine⟨?_,g2⟩;rw[aw _ (by rw[g2];simpa using c),g1];simp[Sw,c],hA.rw_,hA.rt,hA.rn,λb Y=>by
   by_cases z:b=qa a
   .rw[z,mup_same];simp
   .rw[j2_];exact hA.live b Y⟩⟩ (λb _ hr=>zP!)
 show Cd uP_ go_ (wl a1_) ρ M R;have e3:=p3 J;have e2':=p2 J;have e1:=p1 J;have j6:∀K:D->Mh->Prop,w2 Co nB! b8! ρ M K=K p4! M:=λK=>by
  have st:∀{fo:WE} {fb:e_} {x y:D} (_:Ac!) (_:fb ρ=some y) (K:u_),w2 Co fo hq! ρ M K=(match Co M x y with|some d=>K d M|none=>False):=λB J K=>by
   unfold w2;rw[B];simp only[wl,J]<;>rfl
  rw[st hi e1,hg]
 unfold Cd;simp only[wl,e3];rw[j6];simp only[wl,e2',ig,El];exact fin
def d1z{g:ci_}{fo:WE}{fb:e_}(B:Ac!)(J:fb ρ=some y)(K:u_):w2 g fo hq! ρ M K=(match g M x y with|some d=>K d M|none=>False):=by unfold w2;rw[B];simp only[wl,J]<;>rfl
def c4z{fx:e_}(h:aa!)(h0:hC!)(hx:fx ρ=some a)(hk:dn_)(ha:dY!)(K:u_):w2 Co by! la! ρ M K=K (.lst el!) M:=by obtain⟨wt,wn,qa,hA⟩:=h;obtain⟨e0,hw⟩:=hA.mw;obtain⟨e1,ht⟩:=hA.mt;rw[d1z (ixw (M:=M) (ρ:=ρ) (s:=ht!) h0 hw k3t) hx,mV ht hk,pM,HB ha]
def d2c{q:e8_}:Ai (Bc q) K!=some q.1:=by simp[Bc,Ai,Da,Dx]
def d2b{q:e8_}:Ai (Bc q) aI!=some q.2.1:=by simp[Bc,Ai,Da,Dx]
def d2a{q:e8_}:Ai (Bc q) bs!=some (.bl q.2.2):=by simp[Bc,Ai,Da,Dx]
def c3r{neg:Bool}(hx:Sd x)(hl:∀d∈l,Sd d):Hl neg M x (.lst l)=some (.bl (if neg then !decide (x∈l)else decide (x∈l))):=by
 have e:Ae_=decide (x∈l):=by
  rw[KF,QS,IF];show"!K"
  .rintro⟨d,hd,he⟩;rw[lY (hl d hd) hx,IF]at he;rw[<-he];exact hd
  .intro h;exact⟨x,h,by rw[lY hx hx];simp⟩
 have n:∀l:List D,(∀d∈l,Sd d)->Bx l=true/\Dq l<=5:=λl=>by
  induction l with
  |nil=>intro _;simp[Bx,Dq]
  |cons a r ih=>
   intro h;obtain⟨i1,i2⟩:=ih λd hd=>h d (GP _ hd)
   have B:=eR (h a GX);have J:=oA (h a GX);refine⟨by simp[Bx,B,i1],by simp[Dq];omega⟩
 obtain⟨n1,n2⟩:=n l hl;show Hl.inS neg M x (.lst l)=_;show(if Bd x&&Bx l&&decide (Dq l<=40)then some (D.bl (if neg=true then ! Ae_ else l.any λd=>Dy d x))else none)=_;rw[HB (by rw[eR hx,n1];simp;omega),e]
def b6k{fx:e_}{fv:WE}{l:ak!}{R:p_}(h:aa!)(nd:nX_)(hB:cm!<5000)(h0:hC!)(hx:fx ρ=some a)(hk:dn_)(ha:dY!)(hv:∀K:D->Mh->Prop,K lb_ M->fv ρ M K)
  (hR:∀M',Br M' w rl n3_->Si M rl M' rl->R ap_ M'):Cd by! la! fv ρ M R:=by
 show"!y";obtain⟨e0,hw⟩:=hA.mw;obtain⟨e1,ht⟩:=hA.mt;refine hv _ ?_;rw[ixw (M:=M) (ρ:=ρ) (s:=ht!) h0 hw k3t];have ig:=gL (y:=a) (v:=.lst lc!) ht hk el_;simp only[wl,hx,ig,El];obtain⟨g1,g2⟩:=hA.setTx (a:=a) (l:=l) (e:=Fx bZ_ a e1) nd ha;exact hR _ zZ! g2
def a0y{f:e_}{n:Nat}(h:f ρ=some (.int (n:Nat)))(hn:n<=100000):Fc f ρ=some ((ol_).map λi=>D.int em!):=by unfold Fc;rw[h];show(if -1000<=p4_/\p4_<=100000 then some (Cq (p4_).toNat)else none)=_;rw[a8_];simp[Cq]
def c0e{g4 r5 r6 r7 r8:D}{x y z m:Int}{R:p_}(h:aa!)(wi:Bu W)(hB:cm!<5000)(ht:Af_)(ha:dY!)(hk:dn_)(m1:1<=m)(m16:m<=16)
  (hR:∀M' ρ',Br M' w rl (setT W a (Gb wo_ ar!))->Si M rl M' rl->R cl_ M'):
  Wp p5! M R:=by
 have J:∀o4 o5 o6 o7 o8 o9,Aa 2 p5!=some eb_:=λ_ _ _ _ _ _=>rfl;have hm:((m.toNat:Nat):Int)=m:=by omega
 have er:Fc a1_ p5!=some ((d3_).map λi=>D.int em!):=a0y (by rw[p3 Ah!,hm]) a!;show Ah (An 9 (Dt 1 [2] (Lw _) _ _ _)) _ _ M R;simp only[Ah,An,Dt,Lw,er,El];refine fx!;refine eE hC_ (λd=>match d with|.int k=>.tup Ah_|_=>.non) trivial _ _ fx_ ?_
 .obtain⟨k,cx,rfl⟩:=HK.mp hd;refine⟨cM_,rfl,ld!,k4_⟩;have e1:f2 Ai w! W_ cM_=some d3!:=by
   show Ai eb_ bs!=_;exact ix2
  have vb:Bg d3! none (some 2)=some j0_:=by simp[Bg,Db,HT.sIx]
  have e2:En gD_ Au c0_ cM_=some j0_:=by
   unfold En;exact vb
  have e3:f2 Ai gD_ W_ cM_=some (.int z):=by
   show(f2 Ai w! W_ cM_).bind (λv=>Ai v bs!)=_;rw[e1];rfl
  have e4:f2 Al uX! (As nK!) cM_=some (.tup [fb_,fc!,.int (z+a9!)]):=by
   have e5:As nK! cM_=some (.tup [.int (z+a9!)]):=by
    have:f2 Al uX_ l_ cM_=some (.int (z+a9!)):=by
     show(f2 Ai gD_ W_ cM_).bind (λv=>Al v hD!)=_;rw[e3];rfl
    unfold As Ab;rw[this];rfl
   show(En _ _ _ _).bind (λu=>(As _ _).bind λv=>Al u v)=_;rw[e2,e5];rfl
  exact hK
 rw[p6_,JD];show w2 Co by! b8! [some cL!,some x0,some eb_,some nm,o4,o5,o6,o7,o8,some (.lst ((d3_).map Ai!))] M _;have eg:(d3_).map Ai!=(d3_).map λk=>D.tup gV_:=rfl;rw[eg];generalize hg:(d3_).map (λk=>D.tup gV_)=cy at hR;have z8:∀d∈cy,Sd d:=λd hd=>by
  rw[<-hg]at hd;obtain⟨k,_,rfl⟩:=HK.mp hd;exact .inr (.inr (.inr ⟨[x,y,z+(k:Nat)],rfl⟩))
 rw[c4z (ρ:=[B!,M!,lc_,fA!,o4,o5,o6,o7,o8,some hD_]) h rfl (p1 Ah!) hk ha];refine b6k (l:=Gb cy ar!) h wi.nd hB rfl ld_ hk ha p7_ λM' g1 g2=>hR M' _ g1 g2;have ei:Eo C! [B!,M!,lc_,fA!,o4,hE!,o6,o7,o8,some hD_]=some el!:=rfl;refine fx!;refine eE hC_ (λd=>match d with|.tup [s,c,.bl b]=>Bc Ai_|_=>.non) trivial _ _ fx_ ?_
 .obtain⟨q,hq,rfl⟩:=HK.mp hd;have sq:Sd q.1:=(Aj!).sd;refine⟨hE_,rfl,ld!,k4_⟩;have e0:f2 Ai l_ D_ hE_=some q.1:=d2c;have e1:f2 Ai l_ r! hE_=some q.2.1:=d2b;have e2:f2 Ai l_ W_ hE_=some (.bl q.2.2):=d2a;have e3:Aa 1 hE_=some hD_:=rfl;have e4:Hl true M q.1 hD_=some (.bl (!decide (q.1∈cy))):=c3r sq z8;simp only[Wz,Ac,Ag,wl,e0,e1,Mc,wT,e2];cases Y:q.2.2 with
  |true=>
   simp only[w2,wl,e0,e3,e4];refine⟨F!,?_⟩;have:K (Bc og_) M:=by
    have:=hK;show"#;"
   rw[Y]at this;simpa[Bc]using this
  |false=>
   refine⟨F!,?_⟩;have:K (Bc og_) M:=by
    have:=hK;show"#;"
   rw[Y]at this;simpa[Bc]using this
 .rw[p6_,JD];have:(ar!).map ((λd=>match d with|.tup [s,c,.bl b]=>Bc Ai_|_=>D.non)∘Bc)=(Gb cy ar!).map Bc:=by
   unfold Gb;rw[JD];rfl
  rw[this];exact hK
def DC(l:ak!)(b:D)(k a:Nat):Prop:=(a=0/\∀j<k,Aj_≠some b)\/∃j<k,Aj_=some b/\a=j+1
def a7v{o4:D}{l:ak!}(hl:Y!<5000)(hs:∀q∈l,Sd q.1)(Y:Sd b)(R:p_)(hR:∀(a:Nat) y,DC l b l.length a->R (.nx Ak_) M):
  ∀(m k a:Nat) (y:T_),Y! - k=m->k<=Y!->DC l b k a->Gf (Bq 7) Q! CB zL_ Ak_ M R
 |0,k,a,y,hm,hk,ha=>⟨trivial,hR a y (by rw[show l.length=k by omega];exact ha)⟩
 |m+1,k,a,y,hm,hk,ha=>by
  have c1:k<Y!:=by omega
  refine aN!;show CB dv! M _;have e1:l[k]?=some l[k]:=HJ c1;have ea:f2 Ai C! bt_ dv!=some (Bc l[k]):=by
   show Da lc! a9!=_;unfold Da Dx;simp[c1]
  have eb:f2 Ai v! W_ dv!=some b:=p2 rfl;have et:f2 Bb uR! dK_ dv!=some (.bl Al!):=by
   show((f2 Ai C! bt_ dv!).bind λv=>Ai v K!).bind (λu=>(f2 Ai v! W_ dv!).bind λv=>Bb u v)=_;rw[ea,eb];show(Ai (Bc l[k]) K!).bind (λu=>Bb u b)=_;exact pU (hs _ hw_) Y
  have cond:fT uR_ dv!=some Al!:=by
   unfold fT;rw[et];rfl
  have es:f2 Al bt_ r! dv!=some pS_:=by
   show pT!;simp[Al]
  by_cases z:(l[k]).1=b
  .refine zM_;exact a7v (o4:=o4) hl hs Y R hR m Q_ Q_ _ a! a! (.inr ⟨k,u!,by rw[e1];exact congrArg some z,rfl⟩)
  .refine iP zN! ?_;refine a7v (o4:=o4) hl hs Y R hR m Q_ a _ a! a! ?_;obtain⟨B,J⟩|⟨j,B,J,h3⟩:=ha
   .refine .inl ⟨B,j5_⟩;by_cases y:j=k
    .rw[y,e1];exact λx=>z (IR x)
    .exact J j a!
   .exact zN_
def DC.wr{l:ak!}{a:Nat}(h:DC l b l.length a)(nd:(ee!).Nodup):wrT b nw l=l.take a++nw++l.drop a/\a<=Y!:=by
 obtain⟨rfl,J⟩|⟨j,B,J,rfl⟩:=h
 .have nb:b∉l.map b_:=λz=>by
   obtain⟨j,hj⟩:=LZ.mp z;rw[IB]at hj;have:j<Y!:=by
    cases e:l[j]? with
    |none=>rw[e]at hj;cases hj
    |some q=>exact(HC.mp e).1
   exact J j this hj
  unfold wrT;rw[GS nb];simp
 .have hj:l[j]?=some l[j]:=HJ B;rw[hj]at J;have Y:(cl!).1=b:=IR J;have e:l=l.take j++l[j]::l.drop (j+1):=by rw[<-LK B,List.take_append_drop]
  have nb:b∉(l.take j).map b_:=λz=>by
   rw[e]at nd;simp only[HU,GY]at nd;rw[IG]at nd;exact nd.2.2 _ z _ c_ Y.symm
  have j6:b∈l.map b_:=by rw[<-Y];exact GV (JY B)
  refine⟨?_,u!⟩;unfold wrT;rw[HB j6]
  conv=>lhs;rw[e]
  rw[wJ Y nb,NK B];simp only[IY,MY,JO]
def b3e(h n:Int)(s:Str):s.cps.toList.zipIdx.map d5!=(p8!).map λk=>(D.tup pd!,D.str le!,true):=by
 apply QM;intro i;rw[IB,IB,List.getElem?_zipIdx];by_cases c:i<gZ!
 .have c':i<aw_:=by simpa[Str.length]using c
  rw[HJ c,List.getElem?_range c'];simp[sgn,List.getD,HJ c];simp at c;simp[c]
 .have c':¬i<aw_:=by simpa[Str.length]using c
  rw[JE a!,JE bL!];rfl
def d1g{f g k:e_}(B:p8_)(J:p9!)(h3:k ρ=some c):As (Ab f Am!) ρ=some (.tup es!):=by simp[As,Ab,Af,B,J,h3]
def a9x{h n:Int}{s:Str}{R:p_}(hL:aa!)(wi:Bu W)(hB:cm!<5000)(ht:Af_)(ha:dY!)(hk:dn_)(Y:Sd b)(s16:j4_)
  (hR:∀M' ρ',Br M' w rl (setT W a (wrT b d6! ar!))->Si M rl M' rl->R cl_ M'):
  Sf p9_ M R:=by
 show Ah (An 5 (w2 Co _ _)) _ p9_ M R;unfold Ah An;rw[c4z (ρ:=p9_) hL rfl ld_ hk ha];show Df nI! (Bq 7) CB Am_ M _;have er:Fc uQ_ Am_=some ((List.range (ar!).length).map λi=>D.int em!):=a0y (by
  show Bk [.lst el!]=_;simp[Bk]) a!
 simp only[Df,Lw,er,El,List.range_eq_range'];refine a7v (M:=M) (o4:=.non) ht (λq hq=>(Aj!).sd) Y _ (λat_ y SS=>?_) (ar!).length 0 0 none a! a! zW_;obtain⟨ew,pf⟩:=SS.wr (nw:=s.cps.toList.zipIdx.map d5!) (wi.snd a ha);have cg:Fc uT! [B!,M!,fA_,bk!,y4,hE!,qa!,y,none,none]=some ((p8!).map λi=>D.int em!):=a0y (by
  show Bk [d6_]=_;simp[Bk,big];omega) a!
 simp only[Dt,Lw,cg,El];refine fx!;refine eE hC_ (λd=>match d with|.int k=>Bc An_|_=>.non) trivial _ _ fx_ ?_
 .obtain⟨k,cx,rfl⟩:=HK.mp hd;have hk2:=NP.mp cx;refine⟨fB!,rfl,ld!,k4_⟩;have e1:f2 Al v! (As aZ_) fB!=some (.tup Ao!):=rfl;have e2:f2 Ai w! ae! fB!=some aV!:=by
   show Ai fi! aA_=_;exact ix3
  have hc:k<gZ!:=by simpa[Str.length]using hk2
  have e3:Ai aV! hD!=some (.str le!):=by
   show(if aw_<=big then(Da s.cps.toList a9!).map _ else none)=_;rw[dp_];have:Da s.cps.toList a9!=some (s.cps.toList.getD k 0):=by
    unfold Da Dx;rw[a8_,a8_];simp only[LV,LP];rw[HJ hc,List.getD_eq_getElem?_getD,HJ hc];rfl
   rw[this];rfl
  have e4:f2 Ai ny_ l_ fB!=some (.str le!):=by
   show(f2 Ai w! ae! fB!).bind (λv=>Ai v hD!)=_;rw[e2];exact e3
  have e5:As uU! fB!=some (Bc (.tup Ao!,.str le!,true)):=by
   exact d1g e1 e4 rfl
  simp only[wl,e5];exact hK
 rw[p6_,JD];have en:(p8!).map ((λd=>match d with|.int k=>Bc An_|_=>D.non)∘λi=>D.int em!)=(d6!).map Bc:=by
  rw[b3e,JD];apply JS;intro k _;simp
 rw[en];show Cd by! _ _ [B!,M!,fA_,bk!,y4,hE!,qa!,y,some (.lst ((d6!).map Bc)),none] M _;have hnl:(d6!).length=aw_:=by simp[Str.length]
 refine b6k (l:=wrT b d6! ar!) hL wi.nd hB rfl ld_ hk ha p7_ λM' g1 g2=>hR M' _ g1 g2;generalize hnw:s.cps.toList.zipIdx.map d5!=nw at *;have s1:En C! Au e0! qa_=some qb!:=c0n k7_;have s2:En C! e0! Au qa_=some Ao_:=a7j k7_;have b1:Al qb! le_=some Ap!:=by
  show he_;rw[k8_]
 have b2:Al Ap! Ao_=some Ap_:=by
  show he_;rw[k8_,ew];simp
 have ev:f2 Al uV! uW! qa_=some Ap_:=by
  show((En C! Au e0! _).bind λu=>Al u le_).bind (λu=>(En C! e0! Au _).bind λv=>Al u v)=_;rw[s1,s2];show(Al qb! le_).bind (λu=>Al u _)=_;rw[b1];exact b2
 simp only[wl,ev];exact hK
def cY{f:e_}(h:cz_)(K:u_):wl f ρ M K=K d M:=by simp only[wl,h]
def c0d{h n:Int}{R:p_}(hL:aa!)(wi:Bu W)(hB:cm!<4000)(hl:ap!<3900)(hn:Aq_)(ha:Sd a)(hk:dn_)(Y:Sd b)
  (hR:∀M' ρ' ah rows',Qt W.rows ag_ do! b rows'->Br M' w ah (Hn W ag_ rows')->Si M rl M' ah->R cl_ M'):
  Wo hF! M R:=by
 obtain⟨wt,wn,qa,hA⟩:=id hL;obtain⟨e0,hw⟩:=hA.mw;obtain⟨e1,ht⟩:=hA.mt;obtain⟨e2,yb⟩:=hA.mn;have bd:∀{c d:xK!},rl c≠rl d->c≠d:=λh z=>h j5!;have XD:w≠wt:=bd (by rw[hA.rw_,hA.rt];simp);have wwn:w≠wn:=bd (by rw[hA.rw_,hA.rn];simp);have tn:wt≠wn:=bd (by rw[hA.rt,hA.rn];simp);show Ah (An 4 (Vb (w2 a0! _ _) _)) _ hF! M R;unfold Ah An Vb wT;rw[pQ (ρ:=hF!) hL rfl ld_ hk];have er:f2 Bb eP! gd! hF!=some (.bl Ar!):=by
  show(f2 Ai v! r! hF!).bind (λu=>Bb u gc_)=_;exact pU ha (iA _)
 have key:∀g:Bool,(g=true↔(a∈W.its\/a=root))->
   Ah nA! (Ah nC_ nF_)
    (b0!) M R:=by
  intro g hg;have gb:Dk ag_=some (some (.inr [.inl h,.inl n])):=rfl;unfold Ah Cd;have f3:∀g',Aa 3 [B!,M!,some eb!,bk!,some (.bl g'),none,none,none,none,none]=some ag_:=λ_=>rfl;have fl:Di Af b0!=some cK_:=rfl;rw[cY fl];rw[ixw (M:=M) (ρ:=b0!) (s:=ht!) rfl hw k3t];have ig:=gL (y:=gY_) (v:=hG!) ht gb el_;simp only[wl,f3,ig,El];rw[zI hn];generalize hM1:Az M wt As!=M1;have XE:M1 w=some (.dct hz! e0):=by rw[<-hM1,mup_ne XD];exact hw
  have XG:M1 wn=some (.dct hG_ e2):=by rw[<-hM1,mup_ne (GT tn)];exact yb
  have SU:M1 wt=some As!:=by rw[<-hM1];exact mup_same
  have m1:∀c,c≠wt->M1 c=M c:=λc hc=>by rw[<-hM1];exact mup_ne hc
  refine⟨R!,kO_⟩;have qw:w≠q:=aV (by rw[XE];simp) hq;have qt:wt≠q:=aV (by rw[SU];simp) hq;have qn:wn≠q:=aV (by rw[XG];simp) hq;have m2w:Az M1 q d7! w=some (.dct hz! e0):=(mup_ne qw).trans XE;have m2n:Az M1 q d7! wn=some (.dct hG_ e2):=(mup_ne qn).trans XG;show w2 Co j_ nA_ b0! (Az M1 q d7!) _;rw[ixw (M:=Az M1 q d7!) (ρ:=b0!) (s:=pz_) rfl m2w k3n];have hpm2:=gL (y:=gY_) (v:=.fn q) m2n gb el_;simp only[wl,f3,hpm2,El];rw[zI hn];generalize yc:Az (Az M1 q d7!) wn As_=M3;have Mq:∀c,M c≠none->c≠q:=λc hc=>by
   by_cases z:c=wt
   .rw[z];exact qt
   .exact aV (N:=M1) (by rw[m1 c z];exact hc) hq
  have m3:∀c,c≠wt->c≠q->c≠wn->M3 c=M c:=λc B J h3=>by rw[<-yc,oc!,cA_,m1 c B]
  have XH:M3 wt=M1 wt:=by rw[<-yc,mup_ne tn,mup_ne qt]
  have XI:M3 wn=some As_:=by rw[<-yc];exact mup_same
  have XJ:M3 q=some d7!:=by rw[<-yc,mup_ne (GT qn),mup_same]
  have m3w:M3 w=M w:=m3 w XD qw wwn
  let kz:D->Addr:=λi=>if i=.tup U! then q else qa i
  let ah:Addr->LR:=λc=>if c=q then .q ag_ else rl c
  have old:∀c,M c≠none->ah c=rl c:=λc hc=>GS (Mq c hc);have lw:M w≠none:=by rw[hw];simp
  have lt:M wt≠none:=by rw[ht];simp
  have ln:M wn≠none:=by rw[yb];simp
  have qc:Br M3 w ah (Hn W ag_ W.rows):=by
   refine⟨wt,wn,kz,⟨⟨e0,by rw[m3w];exact hw⟩,⟨Fx bZ_ ag_ e1,?_⟩,⟨Fx hG_ ag_ e2,?_⟩,fn_,(old w lw).trans hA.rw_,(old wt lt).trans hA.rt,(old wn ln).trans hA.rn,ku_⟩⟩
   .rw[XH,SU];congr 2;show _=(At_).map _;rw[HU];congr 1
    .apply JS;intro i hi;show(i,D.lst k4!)=(i,D.lst ((if i=.tup U! then[]else W.txt i).map Bc));rw[Au!]
    .show[(D.tup U!,D.lst [])]=[(D.tup U!,D.lst ((if D.tup U!=.tup U! then[]else W.txt ag_).map Bc))];rw[m_];rfl
   .rw[XI];congr 2;show _=(At_).map _;rw[HU];congr 1
    .apply JS;intro i hi;show(i,D.fn fw_)=(i,D.fn (if i=.tup U! then q else qa i));rw[Au!]
    .show[(D.tup U!,D.fn q)]=[(D.tup U!,D.fn (if D.tup U!=.tup U! then q else qa ag_))];rw[m_]
   .have df:i∈W.its++[D.tup U!]:=hi;obtain z|z:=GZ.mp df
    .obtain⟨g1,g2⟩:=hA.mq i z;have ni:i≠.tup U!:=λy=>hn (y▸z);have eq:kz i=qa i:=GS ni;have lq:M fw_≠none:=by rw[g1];simp
     rw[eq];refine⟨?_,(old _ lq).trans g2⟩;rw[m3 _ (bd (by rw[g2,hA.rt];simp)) (Mq _ lq) (bd (by rw[g2,hA.rn];simp)),g1];show some (Nx.lst jX_)=some (Nx.lst (if i=.tup U! then _ else W.num i));rw[GS ni]
    .rw[HI]at z;subst z;have eq:kz ag_=q:=HB rfl;rw[eq];refine⟨?_,m_⟩;rw[XJ];show _=some (Nx.lst (if D.tup U!=.tup U! then[.int 0,.int 0,.int 0,.int 0]else _));rw[m_]
   .by_cases z:c=q
    .rw[z,XJ];simp
    .have bn:rl c≠.oth:=by rw[<-(GS z:ah c=rl c)];exact hc
     have lc:=hA.live c bn;by_cases z1:c=wt
     .rw[z1,XH,SU];simp
     .by_cases z2:c=wn
      .rw[z2,XI];simp
      .rw[m3 c z1 z z2];exact lc
  have F1:Si M rl M3 ah:=λc hc hr=>⟨m3 c (bd (by rw[hr,hA.rt];simp)) (Mq c hc) (bd (by rw[hr,hA.rn];simp)),(old c hc).trans hr⟩;have ep:Lu (fT G!) eP! iG! b0!=some do!:=by
   have e4:fT G! b0!=some g:=rfl;unfold Lu;show(if g=true then f2 Ai v! r! b0! else some Bi)=_;rw[p1 (k:="put") (a:=a) (r:=[b]) rfl];by_cases c:a∈W.its\/a=root
   .rw[HB (hg.mpr c),HB (c.elim .inl λz=>.inr dU!)]
   .rw[GS λz=>c (hg.mp z)];by_cases c2:Ez W a
    .rw[HB c2];obtain z|z|z:=c2
     .exact absurd dU! c
     .exact absurd e2! c
     .rw[z]
    .rw[GS c2]
  have eb:f2 Ai v! W_ b0!=some b:=p2 rfl;have f0:Aa 0 b0!=some cL!:=rfl;have hc:∀(K:u_),Ga [bY_,gY_,do!,b] M3 K->Ao 4 Ga uP! b0! M3 K:=λK hK=>by
   simp only[Ao,Ac,Ag,wl,f0,f3,ep,eb];exact⟨rfl,hK⟩
  refine gQ (hc _ (a7t qc d2_ (.inr (.inr (.inr ⟨[h,n],rfl⟩))) (by split;exact ha;exact iA _) Y (by show ap!<_;omega) λM' rows' uh c8 hF'=>?_))
  .obtain⟨z1,z2,_⟩:=tN wi q hq;exact⟨z1.sd,z2,z1.nn.1⟩
  .exact hR M' _ ah rows' uh c8 (F1.trans hF')
 by_cases c:a∈W.its
 .rw[HY c];exact key true (by simp[c])
 .rw[HF c];simp only[wl,er];exact key Ar! (by simp[c])
end
structure Sl(W:OW)(hb:Nat):Prop where
 rows:ap!<=hb
 its:cm!<=hb
 txt:∀x,(bS!).length<=hb
def Qt.len{rows rows':g!}(h:gN!):rows'.length<=qc_+1:=by
 obtain⟨u,v,e1,e2,_⟩:=h;have B:(dX!).length<=qc_:=by unfold wo;exact PL _ _
 rw[e1,HE]at B;rw[e2,HE,HA];omega
def Sl.stp{W:OW}{hb:Nat}(l:cN_)(h:Sk W n d W'):Sl W' bj_:=by
 have l1:=l.rows;have l2:=l.its;have l3:=l.txt;have same:Sl W bj_:=⟨u!,u!,λx=>by have:=l3 x;omega⟩;cases h with
 |put _ _ hg=>
  have:=hg.len;refine⟨by show _<=_;unfold Hn;simp only;omega,by unfold Hn;simp only[HE,IZ];omega,jO_⟩;unfold Hn;simp only;split
  .simp
  .have:=l3 x;omega
 |mvY _ _ _ _ hg=>
  have:=hg.len;exact Ax!
 |mvN=>exact same
 |drY _ _ hg=>
  have:=hg.len;exact Ax!
 |drN=>exact same
 |@wrt a b s h m _ _ hs e=>
  split
  .refine Ax_;unfold setT;simp only;split
   .obtain⟨u,v,e1,e2,_⟩:=qE b hi_ ar!;have:=l3 a;rw[e1,HE]at this;rw[e2];have cn:gZ!<=16:=hs;simp only[HE,HG,List.length_zipIdx];omega
   .have:=l3 x;omega
  .exact same
 |cut=>
  split
  .refine Ax_;unfold setT;simp only;split
   .unfold Gb;rw[HG];exact same.txt _
   .exact same.txt x
  .exact same
 |set=>
  split
  .exact⟨same.rows,same.its,same.txt⟩
  .exact same
section
variable{M:Mh}{R:D->Mh->Prop}{w:xK!}{rl:Addr->LR}{W:OW}{ρ:Ad}{pre:List D}
def mI{i:Nat}{f:e_}{q:WS}{R:p_}(h:cz_)(k:q bR_ M R):Ah (An i (wl f)) q ρ M R:=by unfold Ah An;rw[cY h];exact k
def c5t{g:WF}{f1 f2 f3 f4:e_}{K:u_}(B:fg!)(J:g5!)(h3:pi_)(h4:f4 ρ=some d)(k:g [a,b,c,d] M K):Ao 4 g yr! ρ M K:=by unfold Ao Ac Ag;rw[cY B,cY J,cY h3,cY h4];exact lf_
def kT(h:p2!)(e:(k==k)=true):knd k ρ=some true:=by rw[b8y h,e]
def kF(h:p2!)(e:kE_=false):knd k' ρ=some false:=by rw[b8y h,e]
def FS:WS:=Av z7_ Wm z8!
def FT:WS:=Av z6_ nG_ (Av z7! nH! FS)
def Ya:WS:=Av z6! Wo FT
def c1y:Wi=Ah nz! (Ah nz_ Ya):=c1z
def Sg(w:xK!)(x0 d nm:D):Ad:=[B!,M!,some d,fA!,none,none,none,none,none,none]
def dv0:Aa 0 Ay_=some cL!:=rfl
def nI:Aa 2 Ay_=some d:=rfl
def Yv(W:OW)(M:Mh)(w:xK!)(rl:dt_)(n d:D)(R:p_):Prop:=∀M' ah W' ρ',Sk W n d W'->Br M' w ah W'->Si M rl M' ah->R cl_ M'
def c8q{h n:Int}{hb:Nat}{R:p_}(hL:aa!)(wi:Bu W)(bp:cN_)(hB:en_)(hn:Aq_)(ha:Cv a)(Y:Mb b)
  (hR:Yv W M w rl ag_ eb! R):Ya (Sg w x0 eb! ag_) M R:=by
 show"!1";have l1:=bp.rows;have l2:=bp.its;refine ifT (kT nI b9a) ?_;exact c0d hL wi a! a! hn ha.sd bj Y.sd λM' ρ' ah rows' hg c8 hF=>hR M' ah _ ρ' (.put ha Y hg) c8 hF
def c4f{hb:Nat}{R:p_}(hL:aa!)(wi:Bu W)(bp:cN_)(hB:en_)(ha:Cv a)(Y:Cv b)(hc:Mb c)
  (hR:Yv W M w rl nm ha! R):Ya (Sg w x0 ha! nm) M R:=by
 show"!1";obtain⟨kb,md⟩:=cH Y;have l1:=bp.rows;refine iP (kF nI iS) ?_;refine ifT (kT nI a2w) ?_;refine gQ (c5t dv0 (p1 nI) (p2 nI) (p3 nI) ?_);refine a7s hL wi a! ha.sd Y.sd hc.sd bj md λM' W' B J c8 hF=>?_;by_cases g:a∈W.its/\Ez W b/\¬Wn W.rows a b
 .obtain⟨rows',hg,e⟩:=B g;rw[e]at c8;exact hR M' rl _ _ (.mvY ha Y hc g hg) c8 hF
 .rw[J g]at c8;exact hR M' rl _ _ (.mvN ha Y hc g) c8 hF
def c4g{hb:Nat}{R:p_}(hL:aa!)(wi:Bu W)(bp:cN_)(hB:en_)(ha:Cv a)
  (hR:Yv W M w rl nm ha_ R):Ya (Sg w x0 ha_ nm) M R:=by
 show"!1";have l1:=bp.rows;refine iP (kF nI iT) ?_;refine iP (kF nI hJ) ?_;refine ifT (kT nI a2x) ?_;refine gQ (c5t (c:=Bi) (d:=.non) dv0 (p1 nI) rfl rfl ?_);refine a7s (kx:=pj!) hL wi a! ha.sd (iA _) aF_ bj rfl λM' W' B J c8 hF=>?_;by_cases g:a∈W.its/\Ez W Bi/\¬Wn W.rows a Bi
 .obtain⟨rows',hg,e⟩:=B g;rw[e]at c8;exact hR M' rl _ _ (.drY ha g hg) c8 hF
 .rw[J g]at c8;exact hR M' rl _ _ (.drN ha g) c8 hF
def c8p{p v:Int}{hb:Nat}{R:p_}(hL:aa!)(wi:Bu W)(bp:cN_)(hB:en_)(ha:Cv a)(h0:0<=p)(h3:p<=3)
  (hR:Yv W M w rl nm kC_ R):Ya (Sg w x0 kC_ nm) M R:=by
 show"!1";have st:=Sk.set (W:=W) (n:=nm) (v:=v) ha h0 h3;refine iP (kF nI nU) ?_;refine iP (kF nI lT) ?_;refine iP (kF nI lU) ?_;refine anT (kT nI b8z) qd_ dw! dw!
 .show"#:";exact c0c hL wi c' bj dv0 nI h0 h3 λM' c8 hF=>hR M' rl _ _ st c8 hF
 .show"#9";refine anF (kF nI kM) ?_;refine anF (kF nI nV) ?_;show"#3"
def c0b{h n:Int}{s:Str}{hb:Nat}{R:p_}(hL:aa!)(wi:Bu W)(bp:cN_)(hB:en_)(ha:Cv a)(Y:Kf b)(hs:j4_)
  (hR:Yv W M w rl ag_ fi! R):Ya (Sg w x0 fi! ag_) M R:=by
 show"!1";have l2:=bp.its;have l3:=bp.txt a;have st:=Sk.wrt (W:=W) (n:=gY_) ha Y hs rfl;refine iP (kF nI kL) ?_;refine iP (kF nI jD) ?_;refine iP (kF nI jE) ?_;refine anF (kF nI a2p) ?_;refine anT (kT nI a6j) qd_ dw! dw!
 .show"#:";exact a9x hL wi a! a! c' bj Y.sd hs λM' ρ' c8 hF=>hR M' rl _ _ st c8 hF
 .show"#9";refine anF (kF nI a2q) ?_;show"#3"
def c8r{x y z m:Int}{hb:Nat}{R:p_}(hL:aa!)(wi:Bu W)(bp:cN_)(hB:en_)(ha:Cv a)(h0:0<=z)(B:1<=m)(J:z+m<=16)
  (hR:Yv W M w rl nm eb_ R):Ya (Sg w x0 eb_ nm) M R:=by
 show"!1";have l2:=bp.its;have l3:=bp.txt a;have st:=Sk.cut (W:=W) (n:=nm) (x:=x) (y:=y) ha h0 B J;refine iP (kF nI nW) ?_;refine iP (kF nI lV) ?_;refine iP (kF nI lW) ?_;refine anF (kF nI a9n) ?_;refine anF (kF nI kN) ?_;refine anT (kT nI b9b) qd_ dw! dw!
 .show"#:";exact c0e (g4:=nm) (r5:=nm) (r6:=nm) (r7:=nm) (r8:=nm) hL wi a! a! c' bj B a! λM' ρ' c8 hF=>hR M' rl _ _ st c8 hF
 .show"#9";show"#3"
def c6w(o:Op):Ai o.v aA_=some o.d:=by simp[Op.v,Ai,Da,Dx]
def vC(o:Op):Ai o.v K!=some bH_:=by simp[Op.v,Ai,Da,Dx]
def a1d(o:Op):Ai o.v aI!=some (.int o.n):=by simp[Op.v,Ai,Da,Dx]
def b9r{f g:e_}(B:p8_)(J:p9!):As (Ab f (Ab g Af)) ρ=some hz_:=by simp[As,Ab,Af,B,J]
def c9p{o:Op}{hb:Nat}(hL:aa!)(hw:Vh W pre)(hn:o.nm∉pre)(hd:DG o.d)(hu:Gu o.d=none)(bp:cN_)(hB:en_)
  (hR:∀M' ah W',Sk W o.nm o.d W'->Br M' w ah W'->Si M rl M' ah->R .non M'):Uw [bY_,o.v] M R:=by
 refine o_;rw[c1y];have e3:f2 Ai w! ae! AA!=some o.d:=c6w o;refine mI (ρ:=AA!) e3 ?_;have e0:As uM_ AA_=some o.nm:=b9r (vC o) (a1d o);refine mI (ρ:=AA_) e0 ?_;generalize hK:w2_=K;have g9:Yv W M w rl o.nm o.d K:=λM' ah W' ρ' B J h3=>by rw[<-hK];exact hR M' ah W' B J h3
 have qk:o.nm∉W.its:=λz=>hn (hw.its _ z);clear hR hK e3 e0 hn;obtain⟨h,n,tm,d⟩:=o;generalize Op.v ⟨h,n,tm,d⟩=v;change Ya (Sg w v d ag_) M K;change Yv W M w rl ag_ d K at g9;change D.tup U!∉W.its at qk;change DG d at hd;change Gu d=none at hu;cases hd with
 |put ha Y=>exact c8q hL hw.inv bp hB qk ha Y g9
 |move ha Y hc=>exact c4f hL hw.inv bp hB ha Y hc g9
 |drop ha=>exact c4g hL hw.inv bp hB ha g9
 |write ha Y _ _ hs=>exact c0b hL hw.inv bp hB ha Y hs g9
 |cut ha hs B J=>
  obtain⟨_,_,_,e,_,_,_,_,z0,_⟩:=hs;cases e;exact c8r hL hw.inv bp hB ha z0 B J g9
 |set ha B J _=>exact c8p hL hw.inv bp hB ha B J g9
 |undo _=>rw[yK]at hu;exact absurd hu (by simp[show pl_=true from by decide+kernel])
 |redo _=>rw[yK]at hu;exact absurd hu (by simp[show pm!=true from by decide+kernel])
end
def Sl.mono{W:OW}{hb B':Nat}(l:cN_)(h:hb<=B'):Sl W B':=⟨IE l.rows h,IE l.its h,λx=>IE (l.txt x) h⟩
section
variable{M:Mh}{R:D->Mh->Prop}{w:xK!}{rl:Addr->LR}{W:OW}{ρ:Ad}{pre:List D}
def Br.keep{M':Mh}(h:aa!)(k:zl_):Br M' w rl W:=by
 show"!y";refine⟨wt,wn,qa,⟨?_,?_,?_,fn_,hA.rw_,hA.rt,hA.rn,bq_⟩⟩
 .rw[k w p3!];exact hA.mw
 .rw[k wt pU_];exact hA.mt
 .rw[k wn zR!];exact hA.mn
 .obtain⟨B,J⟩:=hA.mq i hi;exact⟨(k _ pV!).trans B,J⟩
 .rw[k b Y];show"#+"
def Br.live(h:aa!)(Y:rl b≠.oth):M b≠none:=by obtain⟨wt,wn,qa,hA⟩:=h;exact hA.live b Y
def d1k{ep:Nat}{fo fa fb:e_}(hp:bU_)(h0:fD_)(B:qe!)(J:fb ρ=some z)(hk:cg!)(K:u_)(hK:K ((hB_).getD z) M):Hg ce_ ft! hq! ρ M K:=by
 have c:Dl M C_=some kV!:=by simp[Dl,hp]
 simp only[Hg,wl,h0,B,J,c,El,hk];exact hK
def sW{g:WF}{f1 f2:e_}{K:u_}(B:fg!)(J:g5!)(k:g al! M K):Ao 2 g oK_ ρ M K:=by unfold Ao Ac Ag;rw[cY B,cY J];exact lf_
def a7o{g:WF}{f1:e_}{K:u_}(B:fg!)(k:g [a] M K):Ao 1 g (Ac kg! Ag) ρ M K:=by unfold Ao Ac Ag;rw[cY B];exact lf_
def FH:WT:=Gj u2_ u3_
def FI:WS:=Av FH u4! By
def d1d{ft:WT}{q1 q2:WS}{b:Bool}{R:p_}(h:AB_)(k1:Aa!)(k2:Aa_):Av ft q1 q2 ρ M R:=by
 refine h _ ?_;cases b with
 |true=>rw[m_];exact k1 rfl
 |false=>rw[an!];exact k2 rfl
def c1f{ft fu:WT}{b:Bool}{c:Bool}(h:AB_)(J:b=true->∀K:Bool->Mh->Prop,K c M->fu ρ M K)(K:fq!)(hK:K (b&&c) M):Gj ft fu ρ M K:=by
 refine h _ ?_;cases b with
 |true=>rw[m_];exact J rfl K (by simpa using hK)
 |false=>rw[an!];simpa using hK
def c3g{e0:Nat}{x:Op}(me:AC!)(hd:DG x.d)(hp:M p=some (.dct kb e0))(K:fq!)
  (hK:K (decide AC_) M):FH qe_ M K:=by
 obtain⟨k,r,e,hn,hs⟩:=d1n hd;have i0:f2 Ai m6! D_ qe_=some V!:=b9g e;have hu:(! pO_)=decide qf!:=by
  cases hu:Gu x.d with
  |none=>
   obtain⟨B,J⟩:=hn hu;rw[zA!,zA_,B,J];rfl
  |some u=>
   obtain⟨g1,g2,hk,f8⟩:=hs u hu;rw[b0l hk];rfl
 obtain⟨kn,gb⟩:=a9d x;have hz:(∃b:Bool,(kget kb x.nm).getD ah_=.bl b/\(b=true↔kget wd x.nm=some b7_)):=by
  obtain⟨B,J⟩|⟨k',B,J⟩:=me x.nm
  .exact⟨false,by rw[J];rfl,by rw[B];simp⟩
  .refine⟨k'=="undo",by rw[J];rfl,?_⟩;rw[B];show"!K"
   .intro z;rw[eq_of_beq z]
   .intro z;rw[D.str.inj (IR z)];exact KJ _
 obtain⟨b,hb1,XO⟩:=hz;have e2:As u3! qe_=some x.nm:=b9r (vC x) (a1d x);refine c1f (b:=decide qf!) (c:=!b) (λK' vi=>?_) (λ_ K' vi=>?_) K ?_
 .unfold wT w2;rw[cY i0,cY (f:=fC uw!) rfl,a6t];rw[hu];exact vi
 .unfold Jl wT;refine d1k hp rfl e2 rfl gb _ ?_;rw[hb1];exact vi
 .have:(decide qf!&&!b)=decide AC_:=by
   by_cases c1:Gu x.d=none
   .by_cases c2:kget wd x.nm=some b7_
    .rw[XO.mpr c2];simp[c2]
    .have:b=false:=by
      cases b with
      |true=>exact absurd (XO.mp rfl) c2
      |false=>rfl
     rw[this,HY c1,HY (⟨c1,c2⟩:_/\_)];rfl
   .rw[HF c1,HF λz:_/\_=>c1 z.1];rfl
  rw[this];exact hK
def a1y{e0:Nat}(me:AC!):
  ∀(os:l!) (x1:D) (y:T_) (M:Mh) (rl:dt_) (W:OW) (pre:a_) (hb:Nat) (R:p_),(∀x∈os,DG x.d)->ze_->(pE!).Nodup->Br M w rl W->Vh W pre->Sl W hb->hb+20*L_<3800->M p=some (.dct kb e0)->rl p=.oth->
   (∀M' ah W' y',Vp W pE_ W'->Br M' w ah W'->zf!->Sl W' (hb+20*L_)->Si M rl M' ah->R (.nx [R_,B!,S!,y']) M')->
   Gf P! Q! FI ay_ [R_,B!,S!,y] M R
 |[],x1,y,M,rl,W,pre,hb,R,_,_,_,hL,hw,bp,_,_,_,hR=>⟨trivial,hR M rl W y .nil hL ⟨pre,hw⟩ (bp.mono a!) .refl⟩
 |x::os,x1,y,M,rl,W,pre,hb,R,hd,hp,nd,hL,hw,bp,hB,yd,jy,hR=>by
  refine aN!;simp only[HA]at hB hR;rw[GY,HH]at nd;have ju:=hd x GX;refine d1d (c3g me ju yd) dw! dw!
  .have c':=JZ c;have ee:Pj wd hv!=x::Pj wd os:=by unfold Pj;rw[JI AD_]
   refine gQ (sW rfl rfl (c9p hL hw kX! ju c'.1 bp a! λM1 gk W1 hs qc hF=>?_));have hq:=hF p (by rw[yd];simp) jy;refine a1y me os x1 pF! M1 gk W1 (pre++[x.nm]) bj_ R pF_ zk_ nd.2 qc (b5r hs hw kX!) (bp.stp hs) a! (hq.1.trans yd) hq.2 (λM' ah W' y' g1 g2 g3 g4 g5=>hR M' ah W' y' (by rw[ee];exact .cons hs g1) g2 g3 AE_ (hF.trans g5));obtain z|z:=GZ.mp z
   .exact hp y cw_ z
   .rw[HI]at z;exact nd.1 zl!
  .have c':=OD c;have ee:Pj wd hv!=Pj wd os:=by unfold Pj;rw[JJ AD_]
   exact a1y me os x1 pF! M rl W pre bj_ R pF_ pG_ nd.2 hL hw (bp.mono a!) a! yd jy (λM' ah W' y' g1 g2 g3 g4 g5=>hR M' ah W' y' (by rw[ee];exact g1) g2 g3 AE_ g5)
def d2i{N:Mh}(B:N w=none)(J:Az N w E_ wt=none)(h3:Az qg! wt E_ wn=none):
  ∃rl,Br (Az AG! w AG_) w rl W0/\(∀b,N b≠none->Az AG! w AG_ b=N b/\rl b=.oth)/\Az AF_ wn E_ w=some E_:=by
 have e1:w≠wt:=aV (N:=Az N w E_) py_ J;have e2:w≠wn:=aV (N:=qg_) (by rw[mup_ne e1,mup_same];simp) h3;have e3:wt≠wn:=aV (N:=qg_) py_ h3;have old:∀b,N b≠none->b≠w/\b≠wt/\b≠wn:=λb Y=>by
  have a1:b≠w:=aV Y B;have a2:b≠wt:=aV (N:=Az N w E_) (by rw[hI!];exact Y) J;exact⟨a1,a2,aV (N:=qg_) (by rw[mup_ne a2,hI!];exact Y) h3⟩
 refine⟨λc=>if c=w then .w else if c=wt then .wt else if c=wn then .wn else .oth,⟨wt,wn,λ_=>w,⟨⟨3,mup_same⟩,qh!,qh!,an_,m_,?_,?_,bq_⟩⟩,bq_,?_⟩
 .rw[mup_ne (GT e1),mup_ne e3,mup_same];rfl
 .rw[mup_ne (GT e2),mup_same];rfl
 .show(if wt=w then _ else _)=_;rw[GS (GT e1),m_]
 .show(if wn=w then _ else _)=_;rw[GS (GT e2),GS (GT e3),m_]
 .by_cases a1:b=w
  .rw[a1,mup_same];simp
  .rw[hI!];by_cases a3:b=wn
   .rw[a3,mup_same];simp
   .rw[mup_ne a3];by_cases a2:b=wt
    .rw[a2,mup_same];simp
    .exact absurd (by simp[a1,a2,a3]) Y
 .obtain⟨a1,a2,a3⟩:=old b Y;exact⟨by rw[hI!,mup_ne a3,mup_ne a2,hI!],by simp[a1,a2,a3]⟩
 .rw[mup_ne e2,mup_ne e1,mup_same]
def c9o:Sl W0 0:=⟨HL _,HL _,λ_=>HL _⟩
def d1c:((hx_).map b_).Nodup:=by
 refine HH.mpr ⟨?_,HH.mpr ⟨?_,AH_⟩⟩
 .intro z;obtain z|z:=GR.mp z
  .exact c5c z
  .exact c5d (HI.mp z)
 .intro z;exact c5a (HI.mp z)
def c3k:∀q∈k3 a b c,(Dk q.1).isSome=true:=λq hq=>by
 obtain rfl|hq:=GR.mp hq
 .rfl
 .obtain rfl|hq:=GR.mp hq
  .rfl
  .rw[kP!];rfl
def b3l:Us=Ah u1_
 (Ah u2!
 (Ah (Df nv! P! FI)
 b6!)):=rfl
def c4h{f:WE->WS}{ρ:Ad}{K:u_}(hK:∀w M' rl,M w=none->Br M' w rl W0->pw_->K cL! M'):
  Ol u0! ρ M K:=by
 intro w hw;refine pc (x:=.str "rows") rfl ?_;rw[cY (f:=Di Af) (d:=hG!) rfl];refine pc (x:=.str "texts") rfl ?_;intro wt ht;refine pc (x:=.str "numbers") rfl ?_;intro wn hn;obtain⟨rl,B,J,h3⟩:=d2i hw ht hn;exact⟨h3,by show 3<=1000;decide,c3k,d1c,hK w _ rl hw B J⟩
def c1a{ops:l!}(nd:ee_)(nn:zo!)(hl:ef!)(hd:ho_)
  (hR:∀w M' rl W',M w=none->Vp W0 (Pj hp! aV_) W'->Br M' w rl W'->zo_->Sl W' 1500->pw_->R cL! M'):Pi ch_ M R:=by
 refine o_;rw[b3l];have hp:(aV_).Perm ops:=cG ops;unfold Ah An;refine c4h (f:=λ_=>By) λw M1 rl hw hL fr=>?_;refine a7o (a:=.lst cJ!) rfl (a9l nd hl hd λp M2 ep dw fw vq=>?_);have rp:rl p=.oth:=Classical.byContradiction λz=>hL.live z dw;have hL2:Br M2 w rl W0:=hL.keep λc hc=>vq c λz=>hc (by rw[z];exact rp);unfold Df Ds;refine a7o (a:=.lst cJ!) rfl (vB nd hl ?_);refine a1y (wd:=pw!) (uE aV_ [] [] λx=>.inl bL_) aV_ _ none M2 rl W0 [] 0 _ (λx hx=>hd x zp_) zq! zq_ hL2 c5w c9o kZ! fw rp λM' ah W' y' g1 g2 g3 g4 g5=>?_;refine hR w M' ah W' hw g1 g2 g3 (g4.mono kZ!) λb Y=>?_;obtain⟨e1,e2⟩:=fr b Y;have e3:M2 b=M1 b:=vq b λz=>by rw[<-e1,z,dw]at Y;exact Y rfl
 obtain⟨e4,e5⟩:=g5 b zr! e2;exact⟨e4.trans (e3.trans e1),e5⟩
end
end K25
namespace K25
open PySem L2 DL
variable{t:Ay}
abbrev Wy:Nat:=1000000000000000000000000000000000000000000000000000000000000
def a3p{i:Int}(h:ga!<Wy):Fm [cq_]=some A!:=by
 have:iI!<1000000000000000000000000000000000000000000000000000000000000:=by unfold Wy at h;split<;>omega
 push_cast[Fm,Qb,this]
def a3r{i k:Int}(h:ga!<Wy)(h0:0<=i)(B:i<k):Gp [cq_,g8_]=some A!:=by push_cast[Gp,Qd,a3p h,h0,B]
def a3q{i:Int}(h:ga!<Wy)(B:1<=i):Dv [cq_]=some A!:=by push_cast[Dv,Ml,a3p h,B]
def rN(h:NameG x):Eb [x]=some A!:=by
 obtain⟨a,b,rfl,B,J,h3,h4⟩:=h
 push_cast[Eb,Oe,a3r (i:=a) (k:=16) fE_ B J,a3q (i:=b) fE_ h3]
def sQ(h:Wq x):Ea [x]=some A!:=by
 obtain⟨a,b,c,rfl,B,J,h3,h4,h5,h6⟩:=h
 push_cast[Ea,Kv,rN ⟨a,b,rfl,B,J,h3,h4⟩,a3r (i:=c) (k:=16) fE_ h5 a!]
def nZ(h:Cv x):Go [x]=some A!:=by
 have n:∀s,Eb [d6_]=some ah_:=λs=>by push_cast[Eb,Oe]
 obtain rfl|rfl|h:=h
 .push_cast[Go,Ln,n,gG]
 .push_cast[Go,Ln,n,gG]
 .push_cast[Go,Ln,rN h]
def zT(h:Mb x):Ey [x]=some A!:=by
 obtain rfl|h:=h
 .push_cast[Ey,Jo]
 .obtain⟨a,b,rfl,_⟩:=id h
  push_cast[Ey,Jo,rN h]
def b9y(h:Kf x):Fq [x]=some A!:=by
 obtain rfl|h:=h
 .push_cast[Fq,Kx]
 .obtain⟨a,b,c,rfl,_⟩:=id h
  push_cast[Fq,Kx,sQ h]
def c4e{i:Int}(h0:0<=i)(B:i<=3):Hz [cq_]=some A!:=by push_cast[Hz,Qc,a3r (i:=i) (k:=4) fE_ h0 a!]
def c8l{s:Str}(h:Th s=true)(B:1<=aw_)(J:j4_):Jh [d6_]=some A!:=by
 unfold Th at h;rw[HZ,IF]at h;have hl:aw_<=big:=by unfold big;omega
 have hc:=wS bG! rfl s.cps.toList h.2;have gu:(List.map hC_ s.cps.toList).all id=true:=by simp
 have z1:1<=kt!:=by omega
 have z2:kt!<=16:=by omega
 have hz:gZ!<=big:=by simpa[Str.length]using hl
 have SV:Ep 1 [] (Zk l_) N_ ai! iH! [some aV!]=some (.lst AJ!):=by
  show(if(s.cps.toList.map λc=>D.str aC!).length<=big then Option.map D.lst (Ei N_ ai! iH! bG! (s.cps.toList.map λc=>.str aC!))else none)=_;rw[HG,HB hz,hc];rfl
 have hall2:Ll [.lst AJ!]=some A!:=by
  simp only[Ll,wX,NX,gu]
 push_cast[Jh,Rm,SV,hl,z1,z2,hall2]
def c8h(nd:t.nd):Km t t.A0=some Go/\Km t t.A5=some Ey/\Km t t.A6=some Fq/\Km t t.A7=some Jh/\Km t t.A8=some Ea/\
  Km t t.A9=some Dv/\Km t t.B0=some Hz/\Km t t.B1=some Fm/\Km t t.B2=some Eb:=by
 unfold Ay.nd at nd;simp only[HH,GR,IJ,KL,NV]at nd;unfold Km;refine⟨?_,?_,?_,?_,?_,?_,?_,?_,?_⟩<;>grind
def sU(ρ:Ad)(oy:ρ=qi_):∀(cs:qj!),(∀c∈cs,∃g,Km t c.1=some g/\g [c.2]=some A!)->
  Ei iI_ ai! iJ! ρ lj!=some kj!/\(lj!).length=cC_
 |[],_=>bL_
 |c::cs,h=>by
  have ih:=sU ρ oy cs λx hx=>h x cF_;obtain⟨g,B,J⟩:=h c GX;subst oy;refine⟨?_,by simp only[GY,Kg,HA,ih.2]⟩;simp only[GY,Kg,Ei,ih.1];simp[Qs,Bl,Oh,Ab,Aa,Af,B,J]
def zZ:∀(cs:qj!),Ke xo!=some xo_
 |[]=>rfl
 |c::cs=>by simp only[GY,Ke,zZ cs,NX]
def iW(cs:qj!)(h:∀c∈cs,∃g,Km t c.1=some g/\g [c.2]=some A!)(hl:cC_<=1000):
  Gz t [.tup qk!,.tup qj_]=some A!:=by
 have hc:=sU qi_ rfl cs h;have hz:cC_<=big:=by unfold big;omega
 have SV:Ep 2 [] (Zj w! l_) iI_ ai! iJ! [some (.tup qk!),some (.tup qj_)]=some (.lst kj!):=by
  show(if(lj!).length<=big then Option.map D.lst (Ei iI_ ai! iJ! qi_ lj!)else none)=_;rw[hc.2,HB hz,hc.1];rfl
 have gu:Ll [.lst kj!]=some A!:=by
  simp only[Ll,zZ,NX];simp
 push_cast[Gz,Ot,SV,gu]
def a7i(x:D)(r:a_):Bg (.tup (x::r)) cf_ none=some (.tup r):=by
 have B:HT.sIx (az_+1) 0 cf_=1:=by
  simp[HT.sIx]
 have J:HT.sIx (az_+1) (az_+1) none=az_+1:=by simp[HT.sIx]
 simp[Bg,Db,B,J]
def iN{k:Str}(hk:(gg!).lookup k=some (.tup fs))(hp:Gz t [.tup r,.tup fs]=some A!)(hc:k≠"cut"):Hr t [.tup dp!]=some A!:=by
 have h0:¬(g9!+1=0):=by omega
 have he:Bb (.int (g9!+1)) K!=some ah_:=by simp[Bb,Bd,Gs,Dy,h0]
 push_cast[Hr,Of,he,Xp,hk,Ux,hp,a7i,hc]
def c8o(nd:t.nd)(h:DG d):Hr t [d]=some A!:=by
 obtain⟨i1,i2,i3,i4,i5,i6,i7,i8,i9⟩:=c8h nd;have two:∀{a b:Addr×D} {P:qk_},P a->P b->∀c∈al!,P c:=λB J c hc=>by
  simp only[GR,IJ,KL]at hc;obtain rfl|rfl:=hc
  .exact B
  .exact J
 have ye:∀{a b c:Addr×D} {P:qk_},P a->P b->P c->∀x∈es!,P x:=λB J h3 c hc=>by
  simp only[GR,IJ,KL]at hc;obtain rfl|rfl|rfl:=hc
  .exact B
  .exact J
  .exact h3
 have one:∀{a:Addr×D} {P:qk_},P a->∀x∈[a],P x:=λB c hc=>by rw[HI.mp hc];exact B
 cases h with
 |@put a b B J=>exact iN rfl (iW [fF_,(t.A5,b)] (two fG! ⟨_,i2,zT J⟩) c_) v_
 |@move a b c B J h3=>exact iN rfl (iW [fF_,(t.A0,b),(t.A5,c)] (ye fG! ⟨_,i1,nZ J⟩ ⟨_,i2,zT h3⟩) c_) v_
 |@drop a B=>exact iN rfl (iW [fF_] (one fG!) c_) v_
 |@write a b s B J h3 h4 h5=>exact iN rfl (iW [fF_,(t.A6,b),(t.A7,.str s)] (ye fG! ⟨_,i3,b9y J⟩ ⟨_,i4,c8l h3 h4 h5⟩) c_) v_
 |@cut a x y z m B J h3 h4=>
  have hz:0<=z:=by obtain⟨_,_,_,e,_,_,_,_,q,_⟩:=J;cases e;exact q
  have hp:=iW (t:=t) [fF_,(t.A8,.tup j0!),(t.A9,.int m)] (ye fG! ⟨_,i5,sQ J⟩ ⟨_,i6,a3q fE_ h3⟩) c_;have he:Bb (.int 4) K!=some ah_:=by simp[Bb,Bd,Gs,Dy]
  have hk:(gg!).lookup ("cut":Str)=some (.tup sy!):=rfl;simp only[GY,MC]at hp
  push_cast[Hr,Of,he,Xp,hk,Ux,hp,a7i,h4]
 |@set a p n B J h3 h4=>exact iN rfl (iW [fF_,(t.B0,.int p),(t.B1,.int n)] (ye fG! ⟨_,i7,c4e J h3⟩ ⟨_,i8,a3p h4⟩) c_) v_
 |@undo a B=>exact iN rfl AM! v_
 |@redo a B=>exact iN rfl AM! v_
def d2q{h n m:Int}(nd:t.nd)(B:0<=h)(J:h<16)(h3:1<=n)(h4:n<=2000)(h5:1<=m)(h6:m<=1000)(hd:DG d):Ca t [.tup [aU_,aM!,d4!,d]]=some A!:=by push_cast[Ca,Kw,rN ⟨h,n,rfl,B,J,h3,h4⟩,a3q (i:=m) fE_ h5,c8o nd hd]
def mT(h:NameG x):Bd x=true/\Gs x<=1:=by obtain⟨a,b,rfl,_⟩:=h;simp[Bd,Bx,Gs,Dq]
def eK(h:Cv x):Bd x=true/\Gs x<=1:=by
 obtain rfl|rfl|h:=h
 .simp[Bd,Gs]
 .simp[Bd,Gs]
 .exact mT h
def a0l(h:Mb x):Bd x=true/\Gs x<=1:=by
 obtain rfl|h:=h
 .simp[Bd,Gs]
 .exact mT h
def b0s(h:Kf x):Bd x=true/\Gs x<=1:=by obtain rfl|⟨a,b,c,rfl,_⟩:=h<;>simp[Bd,Bx,Gs,Dq]
def d1l(h:DG d):Bd d=true/\Gs d<=2:=by
 cases h with
 |put B J=>simp only[Bd,Bx,Gs,Dq,eK B,a0l J,LS,PN];have:=(fH!).2;have:=(a0l J).2;omega
 |move B J h3=>simp only[Bd,Bx,Gs,Dq,eK B,eK J,a0l h3,LS,PN];have:=(fH!).2;have:=(eK J).2;have:=(a0l h3).2;omega
 |drop B=>simp only[Bd,Bx,Gs,Dq,eK B,LS,PN];have:=(fH!).2;omega
 |write B J=>simp only[Bd,Bx,Gs,Dq,eK B,b0s J,LS,PN];have:=(fH!).2;have:=(b0s J).2;omega
 |cut B=>simp only[Bd,Bx,Gs,Dq,eK B,LS,PN];have:=(fH!).2;omega
 |set B=>simp only[Bd,Bx,Gs,Dq,eK B,LS,PN];have:=(fH!).2;omega
 |undo B=>simp only[Bd,Bx,Gs,Dq,mT B,LS,PN];have:=(mT B).2;omega
 |redo B=>simp only[Bd,Bx,Gs,Dq,mT B,LS,PN];have:=(mT B).2;omega
variable{t:Ay}
nonrec def hs(os:l!)(h:Int):List Op:=os.filter λo=>decide (o.h=h)
structure Zt(l:l!):Prop where
 num:∀(i:Nat) (o:Op),l[i]?=some o->o.n=em!+1
 tim:l.Pairwise λa b=>a.tm<b.tm
structure Zq(o:Op):Prop where
 hh:o.h=0\/o.h=5\/o.h=15
 t1:1<=o.tm
 t2:o.tm<=1000
 n1:1<=o.n
 n2:o.n<=2000
 dg:DG o.d
structure Hist(os:l!):Prop where
 ch:∀h,Zt lk!
 op:∀o∈os,Zq o
def Zt.nil:Zt []:=⟨λi o e=>by simp at e,jp!⟩
def Zt.snoc{l:l!}{o:Op}(h:Zt l)(e:o.n=(Y!:Nat)+1)(ht:∀x∈l,x.tm<o.tm):Zt (l++[o]):=by
 refine⟨λi x hx=>?_,?_⟩
 .obtain c|c:=LD i Y!
  .rw[JQ c]at hx;exact h.num i x hx
  .rw[IV c]at hx;obtain z|z:=Nat.eq_zero_or_pos (i - Y!)
   .rw[z]at hx;simp at hx;subst hx;rw[e];omega
   .rw[JE bL!]at hx;cases hx
 .rw[List.pairwise_append];exact⟨h.tim,List.pairwise_singleton _ _,λa ha b Y=>by rw[lm!];exact ht a ha⟩
def cR{a b:l!}{h:Int}:hs (a++b) h=hs a h++hs b h:=by unfold hs;rw[QG]
def fG{o:Op}{h:Int}:hs [o] h=if o.h=h then[o]else[]:=by
 unfold hs;by_cases c:o.h=h
 .rw[HB c,JI AM_];rfl
 .rw[GS c,JJ AM_];rfl
def rC{os:l!}{h:Int}{o:Op}:o∈hs os h↔o∈os/\o.h=h:=by unfold hs;rw[MB];simp
def Hist.nil:Hist []:=⟨λh=>Zt.nil,AN!⟩
def Hist.snoc{os:l!}{o:Op}(h:fH_)(hf:Zq o)(e:o.n=((hs os o.h).length:Nat)+1)(ht:∀x∈os,x.h=o.h->x.tm<o.tm):Hist (os++[o]):=by
 refine⟨λk=>?_,aS_⟩
 .rw[cR,fG];by_cases c:o.h=k
  .rw[HB c];subst c;exact(h.ch _).snoc e λx hx=>ht x (rC.mp hx).1 (rC.mp hx).2
  .rw[GS c,HV];exact h.ch k
 .obtain z|z:=GZ.mp hx
  .exact h.op x z
  .rw[bI!];exact hf
structure HW(i:Nat)(os:l!)(c0 c1 c2 t0 t1 t2:Int):Prop where
 hist:Hist os
 len:L_=i
 q0:c0=AN_
 q1:c1=AO!
 q2:c2=AO_
 u0:∀x∈os,x.h=0->x.tm<=t0
 u1:∀x∈os,x.h=5->x.tm<=t1
 u2:∀x∈os,x.h=15->x.tm<=t2
 b0:0<=t0/\t0<=3*i
 b1:0<=t1/\t1<=3*i
 b2:0<=t2/\t2<=3*i
def HW.nil:HW 0 [] 0 0 0 0 0 0:=⟨.nil,rfl,rfl,rfl,rfl,qn!,qn!,qn!,F!,F!,F!⟩
def Zq.ok{o:Op}(h:Zq o):Uf o.v:=⟨o.h,o.n,o.tm,o.d,rfl,by obtain z|z|z:=h.hh<;>omega,by obtain z|z|z:=h.hh<;>omega,h.n1,h.n2,h.dg⟩
section
variable{i:Nat}{os:List Op}{c0 c1 c2 t0 t1 t2:Int}{m:Int}{dd:D}
def wL(os:l!)(h:Int):(lk!).length<=L_:=PL _ _
def HW.opok(hw:lk_):∀o∈os.map Op.v,Uf o:=λo ho=>by
 obtain⟨x,hx,rfl⟩:=HK.mp ho;exact(hw.hist.op x hx).ok
def c7p(m:Int):0<=m / 3%3/\m / 3%3<3:=⟨LA _ d!,JW _ d!⟩
def HW.step0(hw:lk_)(h0:0<=m)(hi:i<100)(hd:DG dd):HW aY_ (os++[⟨0,c0+1,t0+1+m / 3%3,dd⟩]) (c0+1) (c1) (c2) (t0+1+m / 3%3) t1 t2:=by
 obtain⟨m1,m2⟩:=c7p m;have hc:=hw.q0;have Y:=hw.b0;have hl:=wL os 0;rw[hw.len]at hl;refine⟨hw.hist.snoc ⟨cT!,by show 1<=t0+1+m / 3%3;omega,by show t0+1+m / 3%3<=1000;omega,by show 1<=c0+1;omega,by show c0+1<=2000;omega,hd⟩ (by show c0+1=AN_+1;omega) (λx hx hh=>by have:=hw.u0 x hx hh;show x.tm<t0+1+m / 3%3;omega),qo!,by rw[cR,fG,m_,HE];have:=hw.q0;simp;omega,by rw[cR,fG,GS AR!,HV];exact hw.q1,by rw[cR,fG,GS AS!,HV];exact hw.q2,cP!,cP!,cP!,qp!,qp_,qq!⟩
 .obtain z|z:=GZ.mp hx
  .have:=hw.u0 x z hh;omega
  .rw[bI!];exact LL _
 .obtain z|z:=GZ.mp hx
  .exact hw.u1 x z hh
  .rw[bI!]at hh;exact absurd hh AR!
 .obtain z|z:=GZ.mp hx
  .exact hw.u2 x z hh
  .rw[bI!]at hh;exact absurd hh AS!
def HW.step1(hw:lk_)(h0:0<=m)(hi:i<100)(hd:DG dd):HW aY_ (os++[⟨5,c1+1,t1+1+m / 3%3,dd⟩]) (c0) (c1+1) (c2) t0 (t1+1+m / 3%3) t2:=by
 obtain⟨m1,m2⟩:=c7p m;have hc:=hw.q1;have Y:=hw.b1;have hl:=wL os 5;rw[hw.len]at hl;refine⟨hw.hist.snoc ⟨.inr aF_,by show 1<=t1+1+m / 3%3;omega,by show t1+1+m / 3%3<=1000;omega,by show 1<=c1+1;omega,by show c1+1<=2000;omega,hd⟩ (by show c1+1=AO!+1;omega) (λx hx hh=>by have:=hw.u1 x hx hh;show x.tm<t1+1+m / 3%3;omega),qo!,by rw[cR,fG,GS AS_,HV];exact hw.q0,by rw[cR,fG,m_,HE];have:=hw.q1;simp;omega,by rw[cR,fG,GS AT!,HV];exact hw.q2,cP!,cP!,cP!,qp!,qp_,qq!⟩
 .obtain z|z:=GZ.mp hx
  .exact hw.u0 x z hh
  .rw[bI!]at hh;exact absurd hh AS_
 .obtain z|z:=GZ.mp hx
  .have:=hw.u1 x z hh;omega
  .rw[bI!];exact LL _
 .obtain z|z:=GZ.mp hx
  .exact hw.u2 x z hh
  .rw[bI!]at hh;exact absurd hh AT!
def HW.step2(hw:lk_)(h0:0<=m)(hi:i<100)(hd:DG dd):HW aY_ (os++[⟨15,c2+1,t2+1+m / 3%3,dd⟩]) (c0) (c1) (c2+1) t0 t1 (t2+1+m / 3%3):=by
 obtain⟨m1,m2⟩:=c7p m;have hc:=hw.q2;have Y:=hw.b2;have hl:=wL os 15;rw[hw.len]at hl;refine⟨hw.hist.snoc ⟨.inr g5_,by show 1<=t2+1+m / 3%3;omega,by show t2+1+m / 3%3<=1000;omega,by show 1<=c2+1;omega,by show c2+1<=2000;omega,hd⟩ (by show c2+1=AO_+1;omega) (λx hx hh=>by have:=hw.u2 x hx hh;show x.tm<t2+1+m / 3%3;omega),qo!,by rw[cR,fG,GS AV!,HV];exact hw.q0,by rw[cR,fG,GS AW!,HV];exact hw.q1,by rw[cR,fG,m_,HE];have:=hw.q2;simp;omega,cP!,cP!,cP!,qp!,qp_,qq!⟩
 .obtain z|z:=GZ.mp hx
  .exact hw.u0 x z hh
  .rw[bI!]at hh;exact absurd hh AV!
 .obtain z|z:=GZ.mp hx
  .exact hw.u1 x z hh
  .rw[bI!]at hh;exact absurd hh AW!
 .obtain z|z:=GZ.mp hx
  .have:=hw.u2 x z hh;omega
  .rw[bI!];exact LL _
end
section
variable{ρ:Ad}
def b6l{i:Nat}{fx fv:e_}{j:Int}{ds:a_}{k:Nat}(hv:fv ρ=some d)(hx:AZ!)(hl:qs_)(hk:Dx ds.length j=some k):Tw i fx fv ρ=some (.nx wN_):=by unfold Tw;rw[hv,hx,hl];show(oC!).map _=_;rw[hk];rfl
def a3c{i:Nat}{fx:e_}{j:Int}(hx:AZ!)(hl:qs_)(h:Da ds j=some d):Lk i fx ρ=some d:=by unfold Lk;rw[hx,hl];exact h
def b0h{i:Nat}{f:e_}{ds:a_}(hf:cz_)(hl:qs_)(Y:f_<big):Ku i f ρ=some wL!:=by unfold Ku;rw[hf,hl];show(if f_<big then _ else _)=_;rw[HB Y]
def a7z{fs:ao!}{ds:a_}(h:hf!)(hl:xY!):As fs ρ=some dg!:=by unfold As;rw[h];show xY_=_;rw[x0!]
def c3y{f:e_}(h:cz_)(n:Eg d=true):Nq f ρ=some d:=by unfold Nq;rw[h];show(if Eg d=true then _ else _)=_;rw[HB n]
end
def b8h{j:Int}:Ef (.int 7) dl_=some (.int (7*j)):=rfl
def b5f{ns:z!}{base j m kk a c t:Int}{os cs ts:a_}{dd:D}{k:Nat}(em:Bt [cF!,.int (base+7*j)]=some cB_)(ed:Jr [cF!,.int (base+7*j+1),.lst os,.int 5]=some dd)(nd:Eg dd=true)(z:m%3=kk)
  (hc:Da cs kk=some (.int c))(ht:Da ts kk=some (.int t))(kc:Dx cs.length kk=some k)(kt:Dx ts.length kk=some k)(bn:Da A3_ kk=some (.int (c+1)))(ht':Da A4_ kk=some A4!)
  (ha:Da [D.int 0,.int 5,.int 15] kk=some (.int a))(Y:L_<big):
  Uk [H!,aq_,some N,some (.lst os),some (.lst cs),some (.lst ts),some dl_,x7,x8,x9]=some (.nx [H!,aq_,some N,some (.lst (os++[.tup [.int a,.int (c+1),.int (t+1+m / 3%3),dd]])),some (.lst A3_),some (.lst A4_),some dl_,some cB_,some (.int kk),some dd]):=by
 refine(bB (eV (iV (bV rfl (bV A6! rfl)) em))).trans ?_;refine(bB (eV (dN rfl rfl ((vL d!).trans j5!)))).trans ?_;refine(bB (b6l (dN (a3c rfl rfl hc) rfl rfl) rfl rfl kc)).trans ?_;refine(bB (b6l (dN (dN (a3c rfl rfl ht) rfl rfl) (dN A6_ rfl (vL d!)) rfl) rfl rfl kt)).trans ?_;refine(bB (eV (c3y (iV (bV rfl (bV (dN A6! rfl rfl) (bV rfl fm!))) ed) nd))).trans ?_;exact b0h (a7z (bV (dN rfl rfl ha) (bV (a3c rfl rfl bn) (bV (a3c rfl rfl ht') fm!))) rfl) rfl Y
def b2v(ns:z!)(base:Int)(N:Nat)(hN:N<=100):∃os:List Op,Li [cF!,.int base,.int N]=some ep!/\L_=N/\Hist os:=by
 let P:Nat->Ad->Prop:=λi ρ=>∃(os:l!) (c0 c1 c2 t0 t1 t2:Int) (x6 x7 x8 x9:T_),ρ=A8_/\L_=i/\HW i os c0 c1 c2 t0 t1 t2
 obtain⟨ρ',e,os,c0,c1,c2,t0,t1,t2,x6,x7,x8,x9,rfl,hl,hw⟩:=lQ (bnd:=Bq 6) (q:=Uk) P fk! 0
  lp_
  ⟨[],0,0,0,0,0,0,none,none,none,none,rfl,rfl,HW.nil⟩ (by
   rintro j d ρ hd ⟨os,c0,c1,c2,t0,t1,t2,x6,x7,x8,x9,rfl,hl,hw⟩;unfold Cq at hd;rw[IB]at hd;obtain⟨i',df,rfl⟩:=GU.mp hd;obtain⟨ao,he⟩:=HC.mp df;rw[NJ]at he;subst he;rw[KQ]at ao;have ho:∀o∈os.map Op.v,Uf o:=hw.opok;have jq:(ay_).length<=100:=by rw[HG];omega
   obtain⟨m,em,m0,_⟩:=gW ns (k:=base+7*(j:Nat));obtain⟨dd,ed,hd⟩:=c4j ns (base:=base+7*(j:Nat)+1) (most:=5) ho jq d! d!;have nd:=a9y hd;have Y:(ay_).length<big:=by unfold big;omega
   have SS:m%3=0\/m%3=1\/m%3=2:=by omega
   obtain z|z|z:=SS
   .exact⟨_,_,rfl,qu!,_,_,_,_,_,_,_,_,_,_,_,lq!,ea_,hw.step0 a! a! hd⟩
   .exact⟨_,_,rfl,qu!,_,_,_,_,_,_,_,_,_,_,_,lq!,ea_,hw.step1 a! a! hd⟩
   .exact⟨_,_,rfl,qu!,_,_,_,_,_,_,_,_,_,_,_,lq!,ea_,hw.step2 a! a! hd⟩)
 refine⟨os,?_,by simpa[Cq]using hl,hw.hist⟩;have hr:-1000<=(N:Int)/\(N:Int)<=100000:=by omega
 have hf:Ng (Fc v!) c7_ Uk lp_=some (.nx A8_):=by
  have hi:Fc v! lp_=some fk!:=by
   simp[Fc,Aa,hr]
  unfold Ng;rw[hi];exact e
 have hq:Qg A9!=some (.rt ep!):=by
  show sSeq i7_ (sSeq (Ir 4 jj_) (sSeq (Ir 5 jj_) (sSeq (Ng (Fc v!) c7_ Uk) (Be F_)))) _=_;rw[bB (ρ':=[H!,aq_,hM!,ei_,none,none,none,none,none,none]) rfl];rw[bB (ρ':=[H!,aq_,hM!,ei_,qt_,none,none,none,none,none]) rfl];rw[bB (ρ':=lp_) rfl];rw[bB hf];rfl
 unfold Li Bw;rw[gF_];show(match Qg A9! with|some (.rt d)=>some d|some (.nx _)=>some .non|none=>none)=_;rw[hq]
def d0n{o:Op}(nd:t.nd)(h:Zq o):Ca t [o.v]=some A!:=by
 have a1:0<=o.h/\o.h<16:=by obtain z|z|z:=h.hh<;>omega
 exact d2q nd a1.1 a1.2 h.n1 h.n2 h.t1 h.t2 h.dg
def b8e{β:Type}{f:Op->β}(hf:∀a b,f a=f b->a.h=b.h):∀(os:l!),(∀h,((lk!).map f).Nodup)->(os.map f).Nodup
 |[],_=>MX
 |o::os,H=>by
  have sub:∀h,(lk!).Sublist (hs hu_ h):=λh=>by unfold hs;exact(List.sublist_cons_self o os).filter _
  rw[GY,HH];refine⟨cI_,b8e hf os λh=>((sub h).map f).nodup (H h)⟩;obtain⟨x,hx,e⟩:=HK.mp z;have hh:=hf _ _ e;have H1:=H o.h;have:hs hu_ o.h=o::hs os o.h:=by unfold hs;rw[JI c_]
  rw[this,GY,HH]at H1;exact H1.1 (HK.mpr ⟨x,rC.mpr ⟨hx,hh⟩,e⟩)
def Hist.names{os:l!}(h:fH_):(pE!).Nodup:=by
 refine b8e Bc! os λk=>?_
 .show"#=";exact e.1
 .have hn:=(lq_).num;rw[OC,ON,OG];intro i j hi hj VG e;have e1:=hn i _ (HJ hi);have e2:=hn j _ (HJ hj);show"#=";omega
def Hist.keys{os:l!}(h:fH_):(os.map Op.key).Nodup:=by
 refine b8e Bc! os λk=>?_
 .simp only[Op.key,KB]at e;exact e.2
 .rw[OC,ON];refine(lq_).tim.imp λ{a b} ml e=>?_;simp only[Op.key,KB]at e;omega
end K25
namespace K25
open PySem L2 DL
open Classical
def Pu(f:WE)(ρ:Ad)(M:Mh)(d:D):Prop:=∀K:D->Mh->Prop,K d M->f ρ M K
def Rp(f:WT)(ρ:Ad)(M:Mh)(b:Bool):Prop:=∀K:Bool->Mh->Prop,K b M->f ρ M K
def Vq(g:WF)(ds:a_)(M:Mh)(d:D):Prop:=∀K:D->Mh->Prop,K d M->g ds M K
section
variable{M:Mh}{ρ:Ad}
def iR{α:Type}{x:α}{R:pB!}(h:R x):El dC_ R:=h
def bK{f:e_}(h:cz_):Pu (wl f) ρ M d:=λK hK=>by rw[cY h];exact hK
def gV{a:xK!}{fs:aN_}{fo:WE}(h:Pu fo ρ M df_)(hM:M a=some g4_)(hv:fs.lookup x=some v):Pu (Aw C x fo) ρ M v:=λK hK=>by
 unfold Aw;refine h _ ?_;have:Ic C x M df_=some v:=by simp only[Ic,hM,IU,hv]
 rw[this];exact hK
def iE{g:ci_}{fa fb:WE}(ha:Pu fa ρ M x)(Y:Pu fb ρ M y)(hg:g M x y=some d):Pu (w2 g fa fb) ρ M d:=λK hK=>by
 unfold w2;refine ha _ (Y _ ?_);rw[hg];exact hK
def uV{ep:Nat}{fo fa fb:WE}(ho:Pu fo ρ M C_)(ha:Pu fa ρ M y)(Y:Pu fb ρ M z)(hp:bU_)(hk:cg!)(hd:(hB_).getD z=d):Pu (Hg fo fa fb) ρ M d:=λK hK=>by
 have c:Dl M C_=some kV!:=by simp[Dl,hp]
 unfold Hg;refine ho _ ?_;rw[c];refine ha _ (Y _ ?_);rw[c,hk];show K ((hB_).getD z) M;rw[hd];exact hK
def sB{g:ht_}{f:WE}(h:Pu f ρ M x)(hg:g M [x]=some d):Pu (w1 g (Ac f Ag)) ρ M d:=λK hK=>by
 unfold w1 Ac Ag;refine h _ ?_;show El (g M [x]) λd=>K d M;rw[hg];exact hK
def a5f{g:WF}{f1:WE}{a:D}(B:hM_)(hg:Vq g [a] M d):Pu (Ao 1 g (Ac f1 Ag)) ρ M d:=λK hK=>by
 unfold Ao Ac Ag;exact B _ hN!
def uW{g:WF}{f1 f2:WE}{a:D}(B:hM_)(J:Pu f2 ρ M b)(hg:Vq g al! M d):Pu (Ao 2 g (Ac f1 (Ac f2 Ag))) ρ M d:=λK hK=>by
 unfold Ao Ac Ag;exact B _ (J _ hN!)
def a5e{g:WF}{f1 f2 f3:WE}{a:D}(B:hM_)(J:Pu f2 ρ M b)(h3:Pu f3 ρ M c)(hg:Vq g es! M d):Pu (Ao 3 g (Ac f1 (Ac f2 (Ac f3 Ag)))) ρ M d:=λK hK=>by
 unfold Ao Ac Ag;exact B _ (J _ (h3 _ hN!))
def jM{g:WF}{fo f1:WE}{a:D}(h0:Pu fo ρ M av!)(ho:Dg C m M av!)(B:hM_)(hg:Vq g [aL_,a] M d):Pu (Bh C m 2 g fo (Ac f1 Ag)) ρ M d:=λK hK=>by
 unfold Bh Ac Ag;exact h0 _ ⟨ho,B _ hN!⟩
def nN{f:WE}{b:Bool}(h:Pu f ρ M bK_):Rp (wT f) ρ M b:=λK hK=>by unfold wT;exact h _ hK
def a5d{f:aj!}{b:Bool}(h:f ρ=some b):Rp (Dh f) ρ M b:=λK hK=>by unfold Dh;rw[h];exact hK
def a8p{f:WT}{b:Bool}(h:Rp f ρ M b):Rp (Jl f) ρ M (!b):=λK hK=>by unfold Jl;exact h _ hK
def c5f{f g:WT}{b c:Bool}(h:Rp f ρ M b)(J:b=false->Rp g ρ M c)(e:b=true->c=true):Rp (Wu f g) ρ M c:=λK hK=>by
 unfold Wu;refine h _ ?_;cases b with
 |true=>rw[m_,<-e rfl];exact hK
 |false=>rw[an!];exact J rfl K hK
def a0i{i:Nat}{f:WE}{q:WS}{R:p_}(h:Pu f ρ M d)(k:q bR_ M R):Ah (An i f) q ρ M R:=by unfold Ah An;exact h _ k
def eU{f:WE}{R:p_}(h:Pu f ρ M d)(k:R a6_ M):Bn f ρ M R:=by unfold Bn;exact h _ k
def uI{ft:WT}{q1 q2:WS}{R:p_}(h:qx_)(k:q1 ρ M R):Av ft q1 q2 ρ M R:=by unfold Av;refine h _ ?_;rw[m_];exact k
def uJ{ft:WT}{q1 q2:WS}{R:p_}(h:hO!)(k:hj_):Av ft q1 q2 ρ M R:=by unfold Av;refine h _ ?_;rw[an!];exact k
def jX{ft:WT}{q1 q2:WS}{R:p_}(h:hO!)(k:hj_):Ah (Av ft q1 By) q2 ρ M R:=by unfold Ah;exact uJ h k
def CQ(C:xK!)(x:Str)(fo:e_)(ρ:Ad)(y:D)(M:Mh)(Q:cL_):Prop:=wl fo ρ M λd M2=>match d with
 |.fn p=>(match M2 p with|some (.obj C' fs)=>C'=C/\bn_<100/\Q (Az M2 p pP!)|_=>False)
 |_=>False
def tL{fo:e_}{f:WE}{R:p_}(h:f ρ M λy M1=>CQ C x fo ρ y M1 λM2=>R ap_ M2):Dz C x ce_ f ρ M R:=h
def uN{fo:e_}{f:WE}{q:WS}{R:p_}(h:f ρ M λy M1=>CQ C x fo ρ y M1 λM2=>q ρ M2 R):Ah (Dz C x ce_ f) q ρ M R:=h
def jY{fs qh:aN_}{fo:e_}{Q:cL_}(h0:fD_)(hM:M p=some g4_)(hl:bn_<100)(hf:Bo x y fs=qh)(k:Q (Az M p (.obj C qh))):CQ C x fo ρ y M Q:=by unfold CQ;rw[cY h0];show(match M p with|some (.obj C' fs)=>C'=C/\bn_<100/\Q (Az M p pP!)|_=>False);rw[hM];subst hf;exact⟨rfl,hl,k⟩
end
def c2z(h:ce!)(hd:Gs d<=40):Fb d d=some ah_:=by unfold Fb;rw[h,iM d h,HY hd];rfl
def mS:∀{ds:a_},(∀d∈ds,Bd d=true)->Bx ds=true
 |[],_=>by simp[Bx]
 |d::ds,h=>by
  unfold Bx;rw[h d GX,mS λx hx=>h x cF_];rfl
def pX{n:Nat}:∀{ds:a_},(∀d∈ds,Gs d<=n)->Dq ds<=n
 |[],_=>by simp[Dq]
 |d::ds,h=>by
  unfold Dq;have B:=h d GX;have J:=pX λx hx=>h x (GP d hx);omega
def c2r{o:Op}(h:DG o.d):Bd o.v=true/\Gs o.v<=5:=by
 obtain⟨B,J⟩:=d1l h;show"!K"
 .show Bx kH!=true;refine mS λd hd=>?_;simp only[GR,IJ,KL]at hd;obtain rfl|rfl|rfl|rfl:=hd
  .rfl
  .rfl
  .rfl
  .exact B
 .show Dq kH!+1<=5;have:Dq kH!<=2:=pX λd hd=>by
   simp only[GR,IJ,KL]at hd;obtain rfl|rfl|rfl|rfl:=hd
   .simp[Gs]
   .simp[Gs]
   .simp[Gs]
   .exact J
  omega
nonrec def hF(ta wa:xK!)(out:D):List cf!:=[("ours",.int 3),("taken",.fn ta),("waiting",.fn wa),("outline",out)]
section
variable{ta wa:xK!}{out:D}
def hF1:List.lookup qz! cQ!=some (D.int 3):=by kernel_rfl
def hF2:List.lookup qz_ cQ!=some (D.fn ta):=by kernel_rfl
def hF3:List.lookup qA_ cQ!=some (D.fn wa):=by kernel_rfl
def hF4:List.lookup lx_ cQ!=some out:=by kernel_rfl
def hM1:List.lookup (Str.ofString "have") cQ!=none:=by kernel_rfl
def hP1:Bo qz! aA_ []=[er!]:=by kernel_rfl
def hP2:Bo qz_ (.fn ta) [er!]=hQ!:=by kernel_rfl
def hP3:Bo qA_ (.fn wa) hQ!=hQ_:=by kernel_rfl
def hP4:Bo lx_ .non hQ_=hF ta wa .non:=by kernel_rfl
def hP5:Bo lx_ o2 cQ!=hF ta wa o2:=by kernel_rfl
end
structure Cf(t:Ay)(M:Mh)(a ta wa:xK!)(out:D)(S:l!)(kl:z!)(ca:mk_):Prop where
 ob:M a=some (.obj t.B3 cQ!)
 tk:∃ep,M ta=some (.dct er_ ep)
 wt:M wa=some cK_
 cl:∀h∈kl,M f0!=some (.lst ((hS_).map Op.v))
 nk:kl.Nodup
 mem:∀h,h∈kl↔hs S h≠[]
 cw:∀h∈kl,ca h≠wa
 ci:∀h∈kl,∀h'∈kl,ca h=ca h'->h=h'
 len:lz_<=S.length
def hV{g:Int->D}:∀{kl:z!} {x:Int},kget (kl.map λh=>(D.int h,g h)) (.int x)=if x∈kl then some (g x)else none
 |[],x=>by simp[kget]
 |k::kl,x=>by
  rw[GY];unfold kget;by_cases e:k=x
  .subst e;simp
  .rw[GS λz=>e (D.int.inj z),hV];simp[GT e]
section
variable{t:Ay}{M:Mh}{a ta wa:xK!}{out:D}{S:List Op}{kl:List Int}{ca:Int->Addr}
def Cf.nob(hA:a9_)(hm:(cQ!).lookup m=none):Dg t.B3 m M df_:=by show(match M a with|some (.obj C' fs)=>C'=t.B3/\fs.lookup m=none|_=>False);rw[hA.ob];exact⟨rfl,hm⟩
def Cf.nol(hA:a9_){h:Int}(hh:h∉kl):hs S h=[]:=Classical.byContradiction λz=>hh ((hA.mem h).mpr z)
def Cf.keep{M':Mh}(hA:a9_)(k:qC_):Cf t M' a ta wa out S kl ca:=by obtain⟨ep,ht⟩:=hA.tk;exact{hA with ob:=(k a fM_).trans hA.ob,tk:=⟨ep,(k ta hT!).trans ht⟩,wt:=(k wa hT_).trans hA.wt,cl:=λh hh=>(k _ lA_).trans (hA.cl h hh)}
def a3k{h:Int}(hA:a9_):Vq (Eh t) [ab!,aU_] M lB!:=λK hK=>by
 obtain⟨ep,ht⟩:=hA.tk;refine o_;show Bn tk_ [r_,fN!] M _;by_cases c:h∈kl
 .have hl:Pb M [.fn f0!]=some lB!:=by
   show((Rs M (.fn f0!)).map λxs=>D.int i!)=_;simp only[Rs,hA.cl h c,NX,HG]
  exact eU (sB (uV hU_ hV! qE_ ht (k:=lB_) rfl (by rw[hV,HB c];rfl)) hl) hK
 .have hl:Pb M [hG!]=some lB!:=by rw[hA.nol c];rfl
  exact eU (sB (uV hU_ hV! qE_ ht (k:=lB_) rfl (by rw[hV,GS c];rfl)) hl) hK
def a0h{o:Op}(hA:a9_):Vq (Fp t) hW_ M (.bl (decide (o.n<=es_))):=λK hK=>by
 refine o_;show Bn tq! fP_ M _;exact eU (iE (bK (a1d o)) qF_ rfl) hK
def a9o{o:Op}(hA:a9_):Vq (Gn t) hW_ M (.bl (o.n==es_+1)):=λK hK=>by
 refine o_;show Bn tr! fP_ M _;exact eU (iE (bK (a1d o)) (iE qF_ qG! (d:=.int (es_+1)) rfl) (a3n _ _)) hK
def a1z{h:Int}(hA:a9_)(e:hs S h=[]):Vq (Gy t) [ab!,aU_] M K!:=λK hK=>by
 refine o_;show Ah tr_ _ [r_,fN!] M _;unfold Ah;refine uI (nN (iE (jM b1! (hA.nob hM1) hV! (a3k hA)) et! ?_)) (eU et! hK);rw[e];exact a3n _ _
def b4k{ρ:Ad}{R:u_}(hR:∀a ta wa M',M a=none->Cf t M' a ta wa .non [] [] (λ_=>a)->yS_->R df_ M'):Hi t.B3 2 (Lr t) vi! ρ M R:=by
 unfold Hi Ac Ag;rw[cY (f:=fC aA_) (d:=.int 3) rfl];refine⟨rfl,λa ha=>o_⟩;show Ah ti! tj_ [r_,some aA_] qH_ _;refine uN ?_;rw[cY (f:=Aa 1) (d:=.int 3) rfl];refine jY (fs:=[]) rfl mup_same d! hP1 ?_;generalize e1:Az qH_ a qI!=M1;have a1:M1 a=some qI!:=by rw[<-e1];exact mup_same
 have o1:∀b,b≠a->M1 b=M b:=λb Y=>by rw[<-e1,bm_,bm_]
 refine uN ?_;intro ta XQ;have yf:a≠ta:=aV (by rw[a1];simp) XQ;refine jY (fs:=[er!]) rfl ((mup_ne yf).trans a1) d! hP2 ?_;generalize e2:Az (Az M1 ta E_) a qI_=M2;have a2:M2 a=some qI_:=by rw[<-e2];exact mup_same
 have XT:M2 ta=some E_:=by rw[<-e2,qJ!];exact mup_same
 have o2:∀b,b≠a->b≠ta->M2 b=M b:=λb Y hc=>by rw[<-e2,bm_,mup_ne hc];exact o1 b Y
 refine uN ?_;refine⟨R!,λwa SW=>?_⟩;have SX:a≠wa:=aV (by rw[a2];simp) SW;have twa:ta≠wa:=aV (by rw[XT];simp) SW;refine jY (fs:=hQ!) rfl ((mup_ne SX).trans a2) qJ_ hP3 ?_;generalize e3:Az (Az M2 wa cK_) a qK!=M3;have a3:M3 a=some qK!:=by rw[<-e3];exact mup_same
 have o3:∀b,b≠a->b≠wa->M3 b=M2 b:=λb Y hc=>by rw[<-e3,bm_,mup_ne hc]
 have w3:M3 wa=some cK_:=by rw[<-e3,qK_];exact mup_same
 refine tL ?_;rw[lE_];refine jY (fs:=hQ_) rfl a3 qJ_ hP4 ?_;refine⟨rfl,hR a ta wa _ ha ⟨mup_same,qh!,?_,lF_,MX,λh=>by simp[hs],lF_,lF_,HL _⟩ λb Y=>?_⟩
 .rw[qJ!,o3 ta (GT yf) twa];exact XT
 .rw[qK_];exact w3
 .have ba:b≠a:=aV Y ha;have bt:b≠ta:=aV (N:=M1) (by rw[o1 b ba];exact Y) XQ;have bw:b≠wa:=aV (N:=M2) (by rw[o2 b ba bt];exact Y) SW;rw[mup_ne ba,o3 b ba bw,o2 b ba bt]
end
section
variable{t:Ay}{M:Mh}{ρ:Ad}{a ta wa:xK!}{out:D}{S:List Op}{kl:List Int}{ca:Int->Addr}
def cO{ep:Nat}(hp:bU_):Dl M C_=some kV!:=by simp[Dl,hp]
def rW(hp:lG!):Im M C_=some (p,xs):=by simp[Im,hp]
def EU(fa:e_)(ρ:Ad)(d:D)(M:Mh)(R:u_):Prop:=El (Im M d) λ_=>wl fa ρ M λv M2=>El (Im M2 d) λq=>kV_<big/\R .non y8_
def c1u{fo:WE}{fa:e_}{q:WS}{R:p_}(h:fo ρ M λd M1=>EU fa ρ d M1 λ_ M2=>q ρ M2 R):Ah (Bm (Mx fo ft!)) q ρ M R:=h
def a7q{xs:a_}{f:e_}{R:u_}(hp:lG!)(hf:f ρ=some v)(hl:i!<big)(k:R .non qM_):EU f ρ C_ M R:=by unfold EU;rw[rW hp];refine iR ?_;rw[cY hf,rW hp];exact iR ⟨hl,k⟩
def c1r{kvs:g!}{ep:Nat}{fo:WE}{fa:e_}{K:u_}(ho:Pu fo ρ M C_)(B:qe!)(hp:bU_)(hk:cg!)(hl:ds_)
  (old:∀q v,M q=none->kget kvs y=some v->K v eu!)(new:∀q,M q=none->kget kvs y=none->K bC! qN!):Hm fo ft! (Ix Ag) ρ M K:=by
 unfold Hm;refine ho _ ?_;rw[cO hp];refine iR ?_;rw[cY B];refine⟨R!,kO_⟩;have pq:p≠q:=aV qO! hq;show El (Dl eu! C_) _;rw[cO ((mup_ne pq).trans hp)];refine iR ?_;rw[hk];refine iR ⟨hl,?_⟩;show(match kget kvs y with|some v=>K v eu!|none=>K bC! qN!);cases e:kget kvs y with
 |some v=>exact old q v hq e
 |none=>exact new q hq e
def b5d{o:Op}{R:u_}(hA:a9_)(hS:eu_)(hR:∀M' ii ij,Cf t M' a ta wa .non (S++[o]) ii ij->R .non M'):Lh t hW_ M R:=by
 obtain⟨ep,ht⟩:=hA.tk;refine o_;show Ah tE_ m6_ fP_ M _;refine c1u ?_;have i0:f2 Ai w! D_ fP_=some bH_:=vC o;have hkl:lz_<64:=KI hA.len hS;have hlS:(hW!).length<64:=KI (wL S o.h) hS;have at_:a≠ta:=λz=>by have:=hA.ob;rw[z,ht]at this;cases this
 have aw:a≠wa:=λz=>by have:=hA.ob;rw[z,hA.wt]at this;cases this
 have tw:ta≠wa:=λz=>by rw[z,hA.wt]at ht;cases ht
 have cA:∀h∈kl,ca h≠a:=λh hh z=>by have:=hA.cl h hh;rw[z,hA.ob]at this;cases this
 have cT:∀h∈kl,ca h≠ta:=λh hh z=>by have:=hA.cl h hh;rw[z,ht]at this;cases this
 refine c1r (k:=lH!) hU_ i0 ht rfl el_ (λq v hq e=>?_) (λq hq e=>?_)
 .have aq:a≠q:=aV fM_ hq;have tq:ta≠q:=aV hT! hq;have wq:wa≠q:=aV hT_ hq;have cq:∀h∈kl,ca h≠q:=λh hh=>aV lA_ hq;rw[hV]at e;have c:o.h∈kl:=by
   by_cases c:o.h∈kl
   .exact c
   .rw[GS c]at e;cases e
  rw[HB c]at e;cases e;refine a7q (p:=ca o.h) (v:=o.v) ((mup_ne (cq _ c)).trans (hA.cl _ c)) rfl el_ ?_;generalize e2:Az eu! (ca o.h) qQ!=M2;have m2:∀b,b≠q->b≠ca o.h->M2 b=M b:=λb B J=>by rw[<-e2,cA_,cd!]
  have m2c:M2 (ca o.h)=some qQ!:=by rw[<-e2];exact mup_same
  show qQ_;refine tL ?_;rw[lE_];refine jY (fs:=hF ta wa out) rfl ((m2 a aq (GT (cA _ c))).trans hA.ob) lI! hP5 ?_;refine hR _ kl ca ⟨mup_same,⟨ep,?_⟩,?_,lI_,hA.nk,λh=>?_,hA.cw,hA.ci,?_⟩
  .rw[qR_,m2 ta tq (GT (cT _ c))];exact ht
  .rw[qS!,m2 wa wq (GT (hA.cw _ c))];exact hA.wt
  .rw[mup_ne (cA h hh),cR,fG];by_cases z:o.h=h
   .rw[HB z,<-z,m2c,HU];rfl
   .rw[GS z,HV,m2 _ (cq h hh) λy=>z (hA.ci _ hh _ c y).symm];exact hA.cl h hh
  .rw[cR,fG];by_cases z:o.h=h
   .rw[HB z];subst z;simp[c]
   .rw[GS z,HV];exact hA.mem h
  .rw[HE];have:=hA.len;omega
 .have aq:a≠q:=aV fM_ hq;have tq:ta≠q:=aV hT! hq;have wq:wa≠q:=aV hT_ hq;have cq:∀h∈kl,ca h≠q:=λh hh=>aV lA_ hq;rw[hV]at e;have c:o.h∉kl:=by
   by_cases c:o.h∈kl
   .rw[HB c]at e;cases e
   .exact c
  have qo:Aq er_ bH_ bC!=er_++qT!:=iK (λz=>by
   rw[JD]at z;obtain⟨x,hx,ex⟩:=HK.mp z;exact c (by rw[<-D.int.inj ex];exact hx))
  rw[qo];refine a7q (p:=q) (v:=o.v) (xs:=[]) ((mup_ne (GT tq)).trans mup_same) rfl d! ?_;generalize e2:Az (Az eu! ta qT_) q (.lst ([]++[o.v]))=M2;have m2:∀b,b≠q->b≠ta->M2 b=M b:=λb B J=>by rw[<-e2,cd!,cA_,cd!]
  have m2q:M2 q=some (.lst [o.v]):=by rw[<-e2];exact mup_same
  have m2t:M2 ta=some qT_:=by rw[<-e2,mup_ne tq];exact mup_same
  show qQ_;refine tL ?_;rw[lE_];refine jY (fs:=hF ta wa out) rfl ((m2 a aq at_).trans hA.ob) lI! hP5 ?_;have nc:∀h∈kl,h≠o.h:=λh hh z=>c (z▸hh);have RL:hs S o.h=[]:=hA.nol c;refine hR _ (kl++[o.h]) (λh=>if h=o.h then q else ca h) ⟨mup_same,⟨ep+1,?_⟩,?_,lI_,?_,λh=>?_,lI_,λh hh h' qe ee=>?_,?_⟩
  .rw[qR_,m2t,HU];congr 3
   .apply JS;intro h hh;show _=(D.int h,D.fn h1_);rw[GS (nc h hh)]
   .show _=[(D.int o.h,D.fn (if o.h=o.h then q else ca o.h))];rw[m_]
  .rw[qS!,m2 wa wq (GT tw)];exact hA.wt
  .show Az M2 a _ h1_=_;by_cases z:h=o.h
   .rw[HB z,mup_ne (GT aq),m2q,z,cR,fG,m_,RL];rfl
   .have qe:h∈kl:=(GZ.mp hh).resolve_right λy=>z lM!;rw[GS z,mup_ne (cA h qe),m2 _ (cq h qe) (cT h qe),cR,fG,GS (GT z),HV];exact hA.cl h qe
  .rw[IG];exact⟨hA.nk,AH_,λx hx y hy=>by rw[HI.mp hy];exact nc x hx⟩
  .rw[cR,fG,GZ,HI];by_cases z:o.h=h
   .rw[HB z];simp[z]
   .rw[GS z,HV,<-hA.mem h];simp[GT z]
  .show h1_≠wa;by_cases z:h=o.h
   .rw[HB z];exact GT wq
   .rw[GS z];exact hA.cw h ((GZ.mp hh).resolve_right λy=>z lM!)
  .have g:∀x,x∈kl++[o.h]->x≠o.h->x∈kl:=λx hx z=>(GZ.mp hx).resolve_right λy=>z lM!;have tf:h1_=(if h'=o.h then q else ca h'):=ee;by_cases z:h=o.h
   .by_cases z':h'=o.h
    .rw[z,z']
    .rw[HB z,GS z']at tf;exact absurd tf.symm (cq h' (g h' qe z'))
   .by_cases z':h'=o.h
    .rw[GS z,HB z']at tf;exact absurd tf (cq h (g h hh z))
    .rw[GS z,GS z']at tf;exact hA.ci h (g h hh z) h' (g h' qe z') tf
  .rw[HE,HE];have:=hA.len;simp;omega
def a8q{f:WE}{nl:Nat}{ix:i_}{bnd:ag!}{ft:WT}{fe:WE}(h:Pu f ρ M C_)(hp:M p=some cK_):Pu (Dt nl ix (Ds f) bnd ft fe) ρ M cK_:=λK hK=>by
 unfold Dt Ds;refine h _ ?_;show(match M p with|some (.lst xs)=>_|_=>False);rw[hp];exact⟨JA _,hp,hK⟩
def b3b{ft:WT}{q q2:WS}{R:p_}(h:hO!)(k:hj_):Ah (Fj ft q) q2 ρ M R:=by unfold Ah Fj;refine fa!;unfold Ch;refine h _ ?_;rw[an!];exact k
def qD(hA:a9_):Vq (Ec t) [ab!] M K!:=λK hK=>by
 refine o_;show Ah (An 1 aP_) (Ah (An 2 (Dt 1 [0] (Ds eS!) N_ _ _)) (Ah (Fj tH_ _) b6!)) qX_ M _;refine a0i et! ?_;refine a0i (a8q (gV b1! hA.ob hF3) hA.wt) ?_;refine b3b (a5d rfl) ?_;exact eU et! hK
def a8m{o:Op}{R:u_}(hA:a9_)(hS:eu_)(hn:o.n=es_+1)(hR:∀M' ii ij,Cf t M' a ta wa .non (S++[o]) ii ij->R aI! M'):Jg t hW_ M R:=by
 refine o_;show Ah tL! _ h3! M _;have hx:Rp tJ_ h3! M true:=by
  have e:(o.n==es_+1)=true:=by rw[hn];exact KJ _
  have:=nN (uW (ρ:=h3!) qY_ (bK (f:=Aa 1) rfl) (a9o (o:=o) hA));rw[e]at this;show"#;"
 unfold Ah;refine uI hx ?_;refine gQ (sW rfl rfl (b5d hA hS λM' ii ij je=>?_));show Bn tK_ h3! M' _;exact eU (iE qG! (a5f (bK (f:=Aa 0) (d:=ab!) rfl) (qD je)) (d:=.int 1) rfl) q1_
def Hist.next{os:l!}{o:Op}(h:Hist (S++o::os)):o.n=es_+1:=by
 have:=(h.ch o.h).num (hW!).length o;rw[cR]at this;have e:hs hu_ o.h=o::hs os o.h:=by unfold hs;rw[JI c_]
 rw[e]at this;exact this (by rw[IV x_];simp)
def CF(t:Ay):WS:=Sn 2 tM!
def b0o:∀(os:l!) (x1:D) (k:Int) (y:T_) (M:Mh) (out:D) (S:l!) (kl:z!) (ca:mk_) (R:p_),Cf t M a ta wa out S kl ca->Hist (S++os)->(S++os).length<64->
  (∀M' ii ij vw y',Cf t M' a ta wa vw (S++os) ii ij->(vw=.non\/vw=out)->R (.nx [r_,R_,some (.int (k+(L_:Nat))),y']) M')->
  Gf P! Q! (CF t) ay_ [r_,R_,some (.int k),y] M R
 |[],x1,k,y,M,out,S,kl,ca,R,hA,_,_,hR=>⟨trivial,by
  have:=hR M kl ca out y (by rw[HV];exact hA) g5_;simpa using this⟩
 |o::os,x1,k,y,M,out,S,kl,ca,R,hA,hH,hl,hR=>by
  refine aN!;show CF t q4! M _;show Ao 2 (Jg t) nb! q4! M _;have jq:S.length<64:=by rw[HE]at hl;omega
  refine sW rfl rfl (a8m hA jq hH.next λM' ii ij je=>?_);have e:S++o::os=S++[o]++os:=by simp
  refine b0o os x1 Q_ ef_ M' .non (S++[o]) ii ij R je (by rw[<-e];exact hH) q4_ λM2 kl2 ca2 out2 y2 J hz=>?_;have h3:=hR M2 kl2 ca2 out2 y2 (by rw[e];exact J) (.inl (hz.elim id id));have ek:k+((hu_).length:Nat)=k+1+(L_:Nat):=by rw[HA];omega
  rw[ek]at h3;exact h3
end
section
variable{t:Ay}{M:Mh}{ρ:Ad}{a ta wa:xK!}{out:D}{ca:Int->Addr}
def Cf.mupN{c:Nx}(hA:fT!)(B:p≠a)(J:p≠ta)(h3:p≠wa):Cf t pt_ a ta wa out [] [] ca:=by obtain⟨ep,ht⟩:=hA.tk;exact{hA with ob:=(mup_ne (GT B)).trans hA.ob,tk:=⟨ep,(mup_ne (GT J)).trans ht⟩,wt:=(mup_ne (GT h3)).trans hA.wt,cl:=λh hh=>lF!}
def Cf.offN(hA:fT!)(hp:M p=none):p≠a/\p≠ta/\p≠wa:=by obtain⟨ep,ht⟩:=hA.tk;exact⟨GT (aV fM_ hp),GT (aV hT! hp),GT (aV hT_ hp)⟩
def a8b{kvs:g!}{ep:Nat}{fo fa fb:e_}{K:u_}(h0:fD_)(B:qe!)(J:fb ρ=some z)(hp:bU_)(hk:cg!)(hl:ds_)(hn:y∉kvs.map b_)(hK:K z (Az M p (.dct (kvs++[(y,z)]) a8!))):Hm ce_ ft! hq! ρ M K:=by unfold Hm;rw[cY h0,cO hp];refine iR ?_;rw[cY B,cY J,cO hp,hk];refine iR (iR ⟨hl,?_⟩);show(match kget kvs y with|some v=>K v M|none=>K z (Az M p (.dct (Aq kvs y z) a8!)));rw[vZ hn,iK hn];exact hK
def b8c(o:Op):Ai o.nm K!=some bH_:=by simp[Op.nm,Ai,Da,Dx]
def c6x(o:Op):Ai o.v bs!=some ei!:=by simp[Op.v,Ai,Da,Dx]
def CH(t:Ay):WS:=Ah eN_
 (Ah tw_
 ty!)
def b1t:∀(os dn:l!) (x1:D) (y3 y4 y5:T_) (ep:Nat) (M:Mh) (R:p_),Cf t M a ta wa out [] [] ca->(∀o∈os,Zq o)->((dn++os).map Op.nm).Nodup->(dn++os).length<64->M p=some (.dct lR! ep)->p≠a->p≠ta->p≠wa->
  (∀M' be lu l8 l9,M' p=some (.dct ((dn++os).map λo=>h8!) be)->fr!->R (.nx [r_,R_,S!,lu,l8,l9]) M')->
  Gf P! Q! (CH t) ay_ [r_,R_,S!,y3,y4,y5] M R
 |[],dn,x1,y3,y4,y5,ep,M,R,_,_,_,_,hp,_,_,_,hR=>⟨trivial,hR M ep y3 y4 y5 (by rw[HV];exact hp) λb _=>rfl⟩
 |o::os,dn,x1,y3,y4,y5,ep,M,R,hA,hf,nd,hl,hp,vx,vy,s9,hR=>by
  refine aN!;have ho:=hf o GX;have e:dn++o::os=dn++[o]++os:=by simp
  show CH t lS! M _;show Ah eN_ _ lS! M _;have es:En F_ Au c0_ lS!=some o.nm:=b5t o;refine a0i (bK es) ?_;show Ah oP_ _ h8_ M _;have B:Rp tt! h8_ M false:=by
   have:=nN (uW (ρ:=h8_) qY_ (bK (f:=Aa 3) rfl) (a0h (o:=o) hA));rw[HF (by have:=ho.n1;show¬(o.n<=cW_);omega)]at this;show"#;"
  have J:Rp tw! h8_ M false:=by
   refine nN (iE (bK (d:=hk_) (b8c o)) (gV b1! hA.ob hF1) ?_);have:(o.h==3)=false:=by obtain z|z|z:=ho.hh<;>rw[z]<;>rfl
   show Bb bH_ aA_=_;rw[a3n,this]
  unfold Ah;refine uJ B (uJ J ?_);unfold An;have yb:o.nm∉(lR!).map b_:=λz=>by
   rw[JD]at z;rw[HU,IG]at nd;exact nd.2.2 o.nm z o.nm c_ rfl
  refine a8b (p:=p) (y:=o.nm) (z:=o.v) (k:=rb_) rfl rfl rfl hp rfl (by rw[HG];rw[HE]at hl;unfold big;omega) yb ?_;show Av tx_ Hs By h9_ rc! _;have h3:fT tx! h9_=some false:=by
   obtain⟨n1,n2⟩:=c2r ho.dg;have:f2 Fb C! F_ h9_=some ah_:=c2z n1 a!;show"!w"
  refine uJ (a5d h3) ?_;show Gf P! Q! (CH t) ay_ h9_ rc! R;refine b1t os (dn++[o]) x1 ef_ (some o.nm) ef_ a8! _ R (hA.mupN vx vy s9) (λx hx=>hf x cF_) (by rw[<-e];exact nd) q4_ (by rw[mup_same,HU];rfl) vx vy s9 λM' be z3 z4 z5 g1 g2=>?_;exact hR M' be z3 z4 z5 (by rw[e];exact g1) λb Y=>(g2 b Y).trans fr_
def a9c{ms:l!}{R:u_}(hA:fT!)(hH:dA!)(hl:fU_)
  (hR:∀M' p ep,Cf t M' a ta wa out [] [] ca->M' p=some (.dct fU! ep)->p≠a->p≠ta->p≠wa->R C_ M'):Dd t ia_ M R:=by
 refine o_;show Ah go! (Ah (Df tu! P! (CH t)) eO!) [r_,ey!,none,none,none,none] M _;intro p hp;obtain⟨q1,q2,q3⟩:=hA.offN hp;have ik:=hA.mupN (c:=.dct [] 0) q1 q2 q3;show Ah (Df _ _ _) _ [r_,ey!,S!,none,none,none] dt! _;unfold Ah Df Ds;have va:Jt dt! (.fn wa) lV_=some lV_:=by
  simp only[Jt,ik.wt];rw[HB (by rw[HG];unfold big;simp;omega)];rfl
 refine iE (gV b1! ik.ob hF3) (bK (d:=.lst dA_) rfl) va _ ?_;refine b1t (p:=p) ms [] _ none none none 0 _ _ ik hH.op (by simpa using hH.names) in_ mup_same q1 q2 q3 λM' be y3 y4 y5 g1 g2=>?_;obtain⟨et,ht⟩:=ik.tk;have yg:Cf t M' a ta wa out [] [] ca:={ik with ob:=(g2 a (GT q1)).trans ik.ob,tk:=⟨et,(g2 ta (GT q2)).trans ht⟩,wt:=(g2 wa (GT q3)).trans ik.wt,cl:=λh hh=>lF!};exact eU fV! (hR M' p be yg g1 q1 q2 q3)
def CO(t:Ay):WS:=Ah tz_
 (Ah tC_
 tC!)
def d0h{kvs:g!}{ep:Nat}{fo fi f:e_}{R:p_}(h0:fD_)(B:fi ρ=some y)(J:f ρ=some v)(hp:bU_)(hk:cg!)(hl:ds_)(k':R ap_ hy!):Cd ce_ (wl fi) (wl f) ρ M R:=by unfold Cd;rw[cY J,cY h0,cY B,gL hp hk hl];exact k'
def b2n{e0:Nat}(pq:q≠p):∀(qs:l!) (j7:g!) (ep:Nat) (y3 y4:T_) (M:Mh) (R:p_),Cf t M a ta wa out [] [] ca->M p=some (.dct kvs e0)->(∀o∈qs,kget kvs o.nm=some o.v/\Zq o)->M q=some (.dct j7 ep)->q≠a->q≠ta->q≠wa->
  qs.Pairwise (λx y=>x.h=y.h->x.tm<y.tm)->(∀o∈qs,∀v,kget j7 bH_=some v->∃m,v=.int m/\m<o.tm)->j7.length+qs.length<1000->
  (∀M' lu l8,Cf t M' a ta wa out [] [] ca->R (.nx [r_,S!,aW!,lu,l8]) M')->
  Gf P! Q! (CO t) rg_ [r_,S!,aW!,y3,y4] M R
 |[],j7,ep,y3,y4,M,R,hA,_,_,_,_,_,_,_,_,_,hR=>⟨trivial,hR M y3 y4 hA⟩
 |o::qs,j7,ep,y3,y4,M,R,hA,hp,hk,hq,n1,n2,n3,pw,ht,hl,hR=>by
  refine aN!;obtain⟨hko,ho⟩:=hk o GX;rw[JM]at pw;simp only[HA]at hl;show CO t rh! M _;show Ah (An 4 _) _ rh! M _;have i1:Co M C_ o.nm=some o.v:=(mV (k:=rb_) hp rfl).trans hko;have i2:Co M o.v bs!=some ei!:=c6x o;refine a0i (iE (iE fV! (bK (d:=o.nm) rfl) i1) rh_ i2) ?_;show Ah oP_ _ ib_ M _;have ix:f2 Ai F_ D_ ib_=some bH_:=b8c o;obtain⟨m,em,hm⟩:∃m:Int,(kget j7 (.int o.h)).getD (.int 0)=.int m/\m<o.tm:=by
   cases e:kget j7 bH_ with
   |none=>exact⟨0,rfl,by have:=ho.t1;omega⟩
   |some v=>
    obtain⟨m,e1,e2⟩:=ht o GX v e;exact⟨m,e1,e2⟩
  have hc:Rp tB! ib_ M false:=by
   refine nN (iE (bK (d:=kH_) rfl) (uV (bK (d:=.fn q) rfl) (bK ix) (uW rj! (bK ix) (a1z hA rfl)) hq (k:=lH!) rfl em) ?_);show some (D.bl (decide (o.tm<=m)))=_;rw[HF a!]
  refine jX hc ?_;refine d0h (p:=q) (y:=hk_) (v:=kH_) (k:=lH!) rfl ix rfl hq rfl hc_ ?_;show Gf P! Q! (CO t) rg_ ib_ (Az M q (.dct (Aq j7 bH_ ei!) (Fx j7 bH_ ep))) R;refine b2n pq qs _ _ (some o.nm) (some ei!) _ R (hA.mupN n1 n2 n3) ((mup_ne (GT pq)).trans hp) vV_ mup_same n1 n2 n3 pw.2 (λx hx v hv=>?_) (by have:=kput_len j7 bH_ ei!;omega) λM' z3 z4 h=>hR M' z3 z4 h;by_cases c:o.h=x.h
  .rw[<-c,dQ]at hv;cases hv;exact⟨_,rfl,pw.1 x hx c⟩
  .rw[eH λz=>c (D.int.inj z)]at hv;exact ht x cF_ v hv
def b2b{f:Op->D}{g:Op->D}:∀{l:l!},(hJ_).Nodup->∀{o:Op},o∈l->kget (l.map λo=>(f o,g o)) (f o)=some (g o)
 |[],_,o,h=>by cases h
 |x::l,nd,o,h=>by
  rw[GY,HH]at nd;rw[GY];unfold kget;obtain rfl|h:=GR.mp h
  .rw[m_]
  .rw[GS λz=>nd.1 (by rw[z];exact GV h),b2b nd.2 h]
def Pa(o:Op):Int×Int:=(o.h,o.n)
def Hist.nkeys{ms:l!}(h:dA!):(ms.map Pa).Nodup:=by have:=h.names;rw[OC,ON]at this ⊢;refine this.imp λ{x y} hxy e=>hxy ?_;simp only[Pa,KB]at e;show D.tup [.int x.h,.int x.n]=D.tup [.int y.h,.int y.n];rw[e.1,e.2]
def Hist.rise{ms:l!}(h:dA!){x y:Op}(hx:x∈ms)(hy:y∈ms)(e:x.h=y.h)(hn:x.n<y.n):x.tm<y.tm:=by have rc:x∈hs ms y.h:=rC.mpr ⟨hx,e⟩;have yt:y∈hs ms y.h:=rC.mpr ⟨hy,rfl⟩;obtain⟨i,hi,ei⟩:=PU.mp rc;obtain⟨j,hj,ej⟩:=PU.mp yt;have B:=(l0!).num i x (by rw[HJ hi,ei]);have J:=(l0!).num j y (by rw[HJ hj,ej]);have:=OG.mp (l0!).tim i j hi hj a!;rw[ei,ej]at this;exact this
def b8t{x y:Op}(h:Kl (Pa x) (Pa y)=true)(e:x.h=y.h):x.n<y.n:=by simp only[Kl,BF,Pa,e,IU,IF]at h;exact h
def wV{e0:Nat}{ms:l!}{R:u_}(hA:fT!)(hH:dA!)(hl:fU_)(hp:M p=some (.dct fU! e0))(vx:p≠a)(vy:p≠ta)(s9:p≠wa)
  (hR:rp_):Gr t [ab!,.fn p] M R:=by
 refine o_;show Ah go! (Df ty_ P! (CO t)) [r_,S!,none,none,none] M _;intro q hq;obtain⟨q1,q2,q3⟩:=hA.offN hq;have qp:q≠p:=GT (aV qO! hq);have ik:=hA.mupN (c:=.dct [] 0) q1 q2 q3;have XU:Az M q E_ p=some (.dct fU! e0):=(mup_ne (GT qp)).trans hp;show Df _ _ _ [r_,S!,aW!,none,none] l0_ _;unfold Df Ds;have vz:(ic_).Perm ms:=cG ms;have hsort:Qa l0_ [.fn p]=some (.lst ((ic_).map Op.nm)):=by
  show((Dl l0_ C_).bind λq=>(Vv la_).map D.lst)=_;rw[cO XU];show(Vv ((fU!).map b_)).map D.lst=_;have e1:(fU!).map b_=ms.map Op.nm:=by rw[JD];rfl
  have e2:(rr_).map Mv=ms.map Pa:=by rw[JD];rfl
  rw[e1];unfold Vv;rw[HB ⟨JR.mpr λd hd=>by obtain⟨o,_,rfl⟩:=HK.mp hd;rfl,by rw[e2];exact hH.nkeys,uZ!⟩];show some (D.lst (Iq Mv rr_))=_;rw[uK (f:=Op.nm) (k:=Pa) (k':=Mv) λo=>rfl]
 refine sB fV! hsort _ ?_;refine b2n qp ic_ [] 0 none none _ _ ik XU (λo ho=>⟨b2b hH.names rt!,hH.op o rt!⟩) mup_same q1 q2 q3 ?_ (λo _ v hv=>by cases hv) (by rw[vz.length_eq];simp;omega) λM' y3 y4 h=>hR M' h;have cn:Oi Pa ic_:=jG hH.nkeys;have:=List.Pairwise.and_mem.mp cn;exact this.imp λ{x y} h e=>hH.rise (vz.mem_iff.mp h.1) (vz.mem_iff.mp h.2.1) e (b8t (x:=x) (y:=y) h.2.2 e)
def qA:∀{ys:a_},(∀y∈ys,y=D.bl true)->Ke ys=some l2!
 |[],_=>rfl
 |y::ys,h=>by
  rw[h y GX];show(Ke ys).map (true::·)=_;rw[qA λx hx=>h x cF_];rfl
def b0j{f:e_}(h:cz_):Ab f Af ρ=some [d]:=by unfold Ab;rw[h];rfl
def c9m{f g k:e_}{a:D}(B:p8_)(J:p9!)(h3:k ρ=some c):Ab f Am! ρ=some es!:=by unfold Ab;rw[B,J,h3];rfl
def b9s{g:ac_}{fs:ao!}(h:hf!):f1 g fs ρ=g ds:=by unfold f1;rw[h];rfl
def c4w{ms:l!}(nd:t.nd)(hH:dA!)(hl:fU_):Ct tD_ ie!=some false:=by
 obtain⟨ys,e,_,hr⟩:=jT (ρ:=bG!) (bnd:=Bl 0) (ft:=kv!) (fe:=f1 (Ca t) aZ_) ru! dA_ (by
  intro d hd;obtain⟨o,ho,rfl⟩:=HK.mp hd;exact⟨[Z!],true,rfl,rfl,λ_=>⟨eC_,d0n nd (hH.op o ho),rfl⟩⟩)
 have hc:Ep 1 [] (Eo w!) N_ ai! tD! ie!=some aR_:=by
  show(if(dA_).length<=big then Option.map D.lst (Ei _ _ _ bG! dA_)else none)=_;rw[fW_,e];rfl
 have ha:f1 Ll (Ab ne_ Af) ie!=some A!:=by
  have B:Ab ne_ Af ie!=some [.lst ys]:=by
   exact b0j hc
  rw[b9s B];show(Ke ys).map l4!=_;rw[qA hr];show some (D.bl ((l2!).all id))=_;rw[l4_]
 unfold Ct fT;rw[ha];rfl
def rV{ms:l!}{R:u_}(nd:t.nd)(hA:fT!)(hH:dA!)(hl:fU_)(hR:rp_):Fh t ia_ M R:=by refine o_;show Ah (Av (Dh (Ct _)) Hs By) tE! l5! M _;refine jX (a5d (c4w nd hH hl)) ?_;refine gQ ?_;have hn:∀K:D->Mh->Prop,Dd t ia_ M K->Ao 2 (Dd t) b8_ l5! M K:=λK h=>sW rfl rfl h;show Ao 2 (Dd t) b8_ l5! M _;refine hn _ (a9c hA hH hl λM1 p ep ik hp vx vy s9=>o_);exact wV ik hH hl hp vx vy s9 λM' je=>hR M' je
def c1n{ms:l!}{R:u_}(nd:t.nd)(hA:Cf t M a ta wa .non [] [] ca)(hH:dA!)(hl:fU_)(hR:∀M' ii ij,Cf t M' a ta wa .non ms ii ij->R (.int l8!) M'):Se t ia_ M R:=by refine o_;show Ah tL_ (Ah (An 2 aP_) (Ah (Df nh_ P! (CF t)) eO!)) [r_,ey!,none,none] M _;unfold Ah;refine gQ (sW rfl rfl (rV nd hA hH hl λM1 ik=>?_));refine bK (f:=fC K!) (d:=bU!) rfl _ ?_;show Df nh_ P! (CF t) ry_ M1 _;have hi:Eo w! ry_=some dA_:=a3j rfl;unfold Df Lw;rw[hi];refine b0o ms _ 0 none M1 .non [] [] ca _ ik (by simpa using hH) in_ λM' ii ij vw y' je hz=>?_;have ho:vw=.non:=hz.elim id id;rw[ho]at je;refine eU (bK (d:=.int l8!) (by show some (D.int (0+l8!))=_;rw[Int.zero_add])) q1_
end
def c2q{α:Type}(p q:α->Bool)(l:H_)(h:∀x∈l,¬(p x=true/\q x=true)):(l.filter p++l.filter q).Perm rB!:=by
 have B:=List.filter_append_perm p rB!;rw[QF,QF]at B;have e1:(l.filter λx=>p x&&(p x||q x))=l.filter p:=NO λx _=>by cases p x<;>simp
 have e2:(l.filter λx=>(!p x)&&(p x||q x))=l.filter q:=NO λx hx=>by
  have:=h x hx;cases c:p x<;>cases d:q x<;>simp_all
 rw[e1,e2]at B;exact B
def zQ{S:l!}:∀{kl:z!},kl.Nodup->(ma!).Perm (S.filter λo=>decide (o.h∈kl))
 |[],_=>by simp
 |k::kl,nd=>by
  rw[HH]at nd;rw[JT];refine((zQ nd.2).append_left _).trans ?_;refine(c2q (λo:Op=>decide (o.h=k)) (λo=>decide (o.h∈kl)) S λx _ z=>?_).trans (List.Perm.of_eq (NO λx _=>by simp[GR]));simp only[IF]at z;exact nd.1 (z.1▸z.2)
section
variable{t:Ay}{M:Mh}{ρ:Ad}{a ta wa:xK!}{out:D}{S:List Op}{kl:List Int}{ca:Int->Addr}
def Cf.perm(hA:a9_):(ma!).Perm S:=by refine(zQ hA.nk).trans (List.Perm.of_eq (KA.mpr λo ho=>?_));rw[IF,hA.mem];intro z;have:o∈hs S o.h:=rC.mpr ⟨ho,rfl⟩;rw[z]at this;cases this
def AA(t:Ay):WS:=Vt 1 m7!
def b2t{ck:cL_}(hA:a9_)(ir:ck M)(hS:eu_):∀(ks:z!) (acc:l!) (y:T_) (R:p_),(∀h∈ks,h∈kl)->ck_+64*kz_<100000->
  (∀y',R (.nx [r_,some (.lst ((acc++ks.flatMap (hs S)).map Op.v)),y']) M)->
  Gf be! ck (AA t) rC! [r_,hx!,y] M R
 |[],acc,y,R,_,_,hR=>⟨ir,by have:=hR y;simpa using this⟩
 |h::ks,acc,y,R,hk,hl,hR=>by
  refine⟨ir,?_⟩;obtain⟨ep,ht⟩:=hA.tk;have hh:=hk h GX;show AA t [r_,hx!,fN!] M _;show Vt 1 m7! [r_,hx!,fN!] M _;unfold Vt;have i1:Co M (.fn ta) (.int h)=some (.fn f0!):=(mV (k:=lB_) ht rfl).trans (by rw[hV,HB hh]);refine iE hU_ hV! i1 _ ?_;rw[rW (hA.cl h hh)];refine iR ?_;have hlS:(hS_).length<64:=KI (wL S h) hS;simp only[HA]at hl;refine⟨by simp only[HG];unfold big;omega,?_⟩;show Gf be! ck (AA t) rC! [r_,some (.lst (acc.map Op.v++(hS_).map Op.v)),fN!] M R;rw[<-HU];refine b2t hA ir hS ks (acc++hs S h) (some (.int h)) R vV_ oa_ λy'=>?_;have:=hR y';rw[JT,<-IY]at this;show"#;"
def a4d(hA:a9_)(hH:Hist S)(hS:eu_):Vq (Ew t) [ab!] M (.lst mb_):=λK hK=>by
 obtain⟨ep,ht⟩:=hA.tk;refine o_;show Ah gh_ (Ah rC_ m8!) qX_ M _;show Ah rC_ m8! rD! M _;unfold Ah Df Oj;refine gV b1! hA.ob hF2 _ ?_;rw[cO ht];refine iR ?_;have hkl:lz_<64:=KI hA.len hS;have ek:(er_).map b_=kl.map D.int:=by rw[JD];rfl
 show Gf be! _ (AA t) ((er_).map b_) rD! M _;rw[ek];refine b2t hA ht hS kl [] none _ (λh hh=>hh) bL! λy'=>?_;have hp:=hA.perm;have nd:((ma!).map Op.key).Nodup:=(kY_).nodup_iff.mpr hH.keys;have he:f1 De b5! [r_,some (.lst rD_),y']=some (.lst mb_):=by
  show De [.lst rD_]=_;rw[JO,lX nd rE!,rZ hp nd]
 exact eU (bK he) hK
structure OS(t:Ay)(M:Mh)(a o:xK!)(rl:bB!)(W:OW):Prop where
 hob:∃ta wa,M a=some md_
 out:Ck t M o rl W 1500
def c2p{R:u_}(hA:rF_)(hH:Hist S)(hS:eu_)(hr:Vp W0 rG! W')
  (hR:∀M' o ah,OS t M' a o ah W'->me!->R av! M'):Em t [ab!] M R:=by
 refine o_;show Ah to_ (Bn gt!) [r_] M _;unfold Ah;refine uI (nN (iE (gV b1! hA.ob hF4) rH_ rfl)) ?_;refine tL ?_;show Ao 1 (Hy t) m9! [r_] M _;have hp:(Ig S).Perm S:=cG S;have hc:∀K:D->Mh->Prop,Hy t [.lst mb_] M K->Ao 1 (Hy t) m9! [r_] M K:=λK h=>by
  show Ao 1 (Ew t) bu! [r_] M _;exact a5f rj! (a4d hA hH hS) _ cc_
 refine hc _ (b3p (W':=W') ((kY_).nodup_iff.mpr hH.keys) ((kY_).nodup_iff.mpr hH.names) rE! (λo ho=>(hH.op o (hp.mem_iff.mp ho)).dg) (by rw[b5s hH.keys];exact hr) λo M1 ah ho hO hw fr=>?_);have fa:=fr a fM_;refine jY (fs:=hF ta wa .non) rfl (fa.1.trans hA.ob) lI! hP5 ?_;have J:Ck t (Az M1 a md_) o ah W' 1500:=hO.keep λc hc=>mup_ne λz=>hc (by rw[z];exact fa.2);show Bn gt! [r_] (Az M1 a md_) _;exact eU (gV b1! mup_same hF4) (hR _ o ah ⟨⟨ta,wa,mup_same⟩,J⟩ λb Y hn=>(mup_ne hn).trans (fr b Y).1)
variable{o:xK!}{rl:Addr->Nz}{W:OW}{x:D}
def c2o(h:il!):Vq (Em t) [ab!] M av!:=λK hK=>by
 obtain⟨ta,wa,hob⟩:=h.hob;refine o_;show Ah (Av tm_ _ By) (Bn gt!) [r_] M _;refine jX (nN (iE rI_ rH_ rfl)) ?_;exact eU rI_ hK
def OS.nob(h:il!)(hm:∀{a1 a2 a3 a4 a5 a6:xK!},(ao_).lookup m=none):Dg t.B4 m M av!:=by obtain⟨_,_,_,_,_,_,_,_,_,_,_,_,hA⟩:=h.out;exact hA.noOb hm
inductive HS(t:Ay)(M:Mh)(a:xK!)(W:OW):Prop
 |new {ta wa:xK!} {S:l!} {kl:z!} {ca:mk_} (h:rF_) (hH:Hist S) (hS:eu_) (hr:Vp W0 rG! W):HS t M a W
 |old {o:xK!} {rl:bB!} (h:il!):HS t M a W
def hW{i:Nat}{f:WE}{q:WS}{R:p_}(h:f ρ M λd M1=>q bR_ M1 R):Ah (An i f) q ρ M R:=h
def b7r{R:u_}(h:fY!)(hR:rJ_):Em t [ab!] M R:=by
 cases h with
 |new h hH hS hr=>exact c2p h hH hS hr hR
 |old h=>exact c2o h _ (hR M _ _ h λ_ _ _=>rfl)
def c1d{R:u_}{E:EK}(h:fY!)(hk:hk!)(hx:bC_)(hR:rJ_):Dr t [ab!,x] M R E:=by refine o_;show Ah ni_ nj! [r_,bD!,none] M _;refine hW rL!;refine jX (a8p (nN (b:=true) (jM il_ (hO.nob oM1) mh_ λK hK=>a3l hO.out hk (by rw[HY hx];exact hK)))) ?_;exact eU il_ (hR M' o rl hO fr)
def c1e{R:u_}{E:EK}(h:fY!)(hx:¬Ez W eE_)(hE:rL_):Dr t [ab!,fj!] M R E:=by refine o_;show Ah ni_ nj! [r_,some eE_,none] M _;refine hW rL!;unfold Ah;refine uI (a8p (nN (b:=false) (jM il_ (hO.nob oM1) (bK (d:=fj!) rfl) λK hK=>a3l (k:=Dk eE_ |>.getD none) hO.out rfl (by rw[HF hx];exact hK)))) ?_;exact⟨rfl,λ_=>hE _⟩
end
structure Tr(rows:g!) where
 T:Nat->D->List fY_
 f:D->Nat
 dec:∀x c,di!∈rows->f c<f x
 eq:∀d x,T d x=cg_::(jM_).flatMap (T b2!)
nonrec def pg(rows:g!):Nat->Nat->D->List fY_
 |0,_,_=>[]
 |n+1,d,x=>cg_::(jM_).flatMap (pg rows n b2!)
def a6x{α β:Type}{l:H_}{f g:α->List β}(h:∀a∈l,f a=g a):l.flatMap f=l.flatMap g:=by rw[List.flatMap_def,List.flatMap_def,JS h]
def b1j{rows:g!}{f:D->Nat}(hf:∀x c,di!∈rows->f c<f x)(h0:∀x,0<f x):∀n m d x,f x<=n->f x<=m->pg rows n d x=pg rows m d x
 |0,_,_,x,h,_=>absurd (h0 x) a!
 |n+1,0,_,x,_,h=>absurd (h0 x) a!
 |n+1,m+1,d,x,B,J=>by
  show _::_=_::_;rw[a6x λc hc=>b1j hf h0 n m b2! c (by have:=hf x c do_;omega) (by have:=hf x c do_;omega)]
def b8q{α:Type}(f:α->Nat):∀l:List α,∃hb,∀x∈l,f x<=hb
 |[]=>⟨0,λ_ h=>by cases h⟩
 |a::l=>by
  obtain⟨hb,h⟩:=b8q f l;refine⟨hb+f a,aS_⟩;obtain rfl|hx:=GR.mp hx
  .omega
  .have:=h x hx;omega
def c9y{rows:g!}(h:∃rk:D->Nat,∀i p,bA_∈rows->rk p<rk i):Nonempty (Tr rows):=by
 obtain⟨rk,hr⟩:=h;obtain⟨hb,hB⟩:=b8q (λq:D×D=>rk q.1) rows;have hf:∀x c,di!∈rows->(hb+1 - rk c)+1<in!+1:=λx c hc=>by
  have B:=hr c x hc;have J:rk c<=hb:=hB di! hc;omega
 refine⟨⟨λd x=>pg rows (in!+1) d x,λx=>in!+1,hf,λd x=>?_⟩⟩;show _::_=_::_;rw[a6x λc hc=>b1j hf (λ_=>Nat.succ_pos _) in! ((hb+1 - rk c)+1) b2! c (by have:=hf x c do_;omega) x_]
def c9u{rows:g!}(h:di!∈rows)(w:Wn rows c y):Wn rows x y:=by
 induction w with
 |here=>exact .up h .here
 |up h _ ih=>exact .up h ih
section
variable{rows:List (D×D)}(t:Tr rows)
def Tr.wn(h:Wn rows i x):t.f x<=t.f i:=by
 induction h with
 |here=>exact HL _
 |up h _ ih=>have:=t.dec _ _ h;omega
def Tr.mem:∀{n:Nat} {x y:D} {d:Nat},t.f x<n->y∈(io_).map s_->Wn rows x y
 |0,_,_,_,h,_=>absurd h (PJ _)
 |n+1,x,y,d,h,hy=>by
  rw[t.eq,GY,GR]at hy;obtain rfl|hy:=hy
  .exact .here
  .show"#-";obtain⟨c,hc,hq⟩:=OU.mp hq;have bn:=cN.mp hc;have:=t.dec _ _ bn;have w:=Tr.mem (n:=n) a! mj!;exact c9u bn w
def b5h(nd:cH!)(h:Wn rows a x)(J:Wn rows b x):Wn rows a b\/Wn rows b a:=by
 induction h with
 |here=>exact .inr J
 |up h w ih=>
  cases J with
  |here=>exact .inl (.up h w)
  |up h3 w3=>rw[iL nd h3 h]at w3;exact ih w3
def Tr.nd(nd:cH!):∀{n:Nat} {x:D} {d:Nat},t.f x<n->((io_).map s_).Nodup
 |0,_,_,h=>absurd h (PJ _)
 |n+1,x,d,h=>by
  rw[t.eq,GY,HH];show"!K"
  .intro z;obtain⟨q,hq,e⟩:=HK.mp z;obtain⟨c,hc,hq⟩:=OU.mp hq;have B:=t.dec _ _ do_;have J:=t.wn (t.mem (n:=n) a! mj!);have e:q.2=x:=e;rw[e]at J;omega
  .rw[List.map_flatMap];refine List.pairwise_flatMap.mpr ⟨λc hc=>Tr.nd nd (n:=n) (by have:=t.dec _ _ do_;omega),?_⟩;have hn:(jM_).Nodup:=nd.sublist a3y;refine List.Pairwise.imp_of_mem ?_ hn;intro a b ha Y ne y hy z hz e;subst e;have XV:=cN.mp ha;have b8:=cN.mp Y;have B:=t.dec _ _ XV;have J:=t.dec _ _ b8;obtain w|w:=b5h nd (t.mem (n:=n) a! hy) (t.mem (n:=n) a! hz)
   .have:=t.wn ((uD nd b8 (GT ne)).mp w);omega
   .have:=t.wn ((uD nd XV ne).mp w);omega
def vI{α:Type}:∀{l m:H_},l.Nodup->(∀a∈l,a∈m)->Y!<=m.length
 |[],_,_,_=>JA _
 |a::l,m,h,hs=>by
  rw[HH]at h;have ha:=hs a GX;have:=vI (m:=m.erase a) h.2 λb Y=>(List.mem_erase_of_ne λz:b=a=>h.1 (z▸Y)).mpr (hs b (GP _ Y));rw[List.length_erase_of_mem ha]at this;have:=List.length_pos_of_mem ha;rw[HA];omega
def Tr.len(nd:cH!)(d:Nat)(x:D):(io_).length<=qc_+1:=by
 have:=vI (m:=x::rows.map b_) (t.nd nd (n:=t.f x+1) (x:=x) (d:=d) bs_) λy hy=>by
  have:=t.mem (n:=t.f x+1) bs_ hy;cases this with
  |here=>exact GX
  |up h _=>exact GP _ rQ!
 show"#5"
def Tr.child{d:Nat}(h:di!∈rows):(t.T b2! c).length<(io_).length:=by obtain⟨u,v,e⟩:=List.append_of_mem (cN.mpr h);rw[t.eq d x,e,List.flatMap_append,JT];simp only[HA,HE];omega
end
nonrec def pgD(q:Nat×D):D:=.tup [.int (q.1:Nat),q.2]
def Mr(a:xK!)(x0:D)(o:xK!)(fd:eE!)(p:xK!)(y5 y6:T_):Ad:=[r_,M!,G_,some (.lst (fd.map pgD)),S!,y5,y6]
nonrec def pC:WT:=wT tQ!
nonrec def pI:WS:=Bm tT_
nonrec def pF(t:Ay):WS:=Df tS! c7_ pI
nonrec def pB(t:Ay):WS:=Ah tQ_ (Ah tR! (pF t))
section
variable{M:Mh}{ρ:Ad}{p:xK!}{q:WS}{R:Fl->Mh->Prop}{xs:List D}
def c1p{i:Nat}{fo:e_}(h0:fD_)(hp:M p=some (.lst eW!))(k:q (ρ.set i (some y)) (Az M p N!) R):Ah (An i (Sm ce_)) q ρ M R:=by
 have cl:Im M C_=some (p,xs++[y]):=by simp[Im,hp]
 have gl:eW![(eW!).length - 1]?=some y:=by simp
 unfold Ah An Sm;rw[cY h0,cl];refine iR ?_;show El (eW![(eW!).length - 1]?) _;rw[gl,List.dropLast_concat];exact k
def d0a{f:aD!}{ρ':Ad}(h:f ρ=some cl_)(k:q ρ' M R):Ah (Rq f) q ρ M R:=by unfold Ah Rq;rw[h];exact k
def c9k{fo fa:e_}(h0:fD_)(B:fa ρ=some v)(hp:lG!)(hl:i!<big)(k:R ap_ qM_):Bm (Mx ce_ ft!) ρ M R:=by
 have cl:Im M C_=some (p,xs):=by simp[Im,hp]
 unfold Bm Mx;rw[cY h0,cl];refine iR ?_;rw[cY B,cl];exact⟨hl,k⟩
def whT{ft:WT}{n:Nat}(h:qx_)(k:q ρ M λr M2=>match r with|.nx bh=>Ch ft q n bh M2 R|.rt d=>R a6_ M2):Ch ft q bF! ρ M R:=by show ft ρ M _;refine h _ ?_;rw[m_];exact k
def whF{ft:WT}{n:Nat}(h:hO!)(k:R ap_ M):Ch ft q bF! ρ M R:=by show ft ρ M _;refine h _ ?_;rw[an!];exact k
end
section
variable{t:Ay}{M M0:Mh}{ρ:Ad}{a o p:xK!}{rl:Addr->Nz}{W:OW}{x:D}{R:D->Mh->Prop}
def OS.keepN{M':Mh}(h:il!)(k:qC_):OS t M' a o rl W:=by obtain⟨ta,wa,e⟩:=h.hob;exact⟨⟨ta,wa,(k a kI!).trans e⟩,h.out.keep λc hc=>k c (h.out.live hc)⟩
def b1g{fd:eE!}{d:Nat}:∀(cs:a_) (xs:a_) (y6:T_) (M:Mh) (R:p_),M p=some N!->i!+cC_<90000->
  (∀M' y6,M' p=some (.lst (xs++cs.map λc=>pgD f0_))->fr!->R (.nx mm!) M')->Gf c7_ Q! pI cs mm! M R
 |[],xs,y6,M,R,hp,_,hR=>⟨trivial,hR M y6 ig! λ_ _=>rfl⟩
 |c::cs,xs,y6,M,R,hp,hl,hR=>by
  refine aN!;rw[HA]at hl;have ev:As tT! iq_=some (pgD f0_):=by
   have e1:f2 Al tS_ r! iq_=some rT!:=by
    have e2:f2 Ai C! D_ iq_=some rT_:=by
     show Ai ml! K!=_;simp[pgD,Ai,Da,Dx]
    unfold f2 at e2 ⊢;rw[e2];show some rU!=_;simp
   exact b9r e1 rfl
  show pI iq_ M _;refine c9k (fo:=Aa 4) rfl ev hp (HP (show i!<90000 by omega) d!) ?_;refine b1g cs (xs++[pgD f0_]) (some c) _ R mup_same kY! λM' y6 e k=>hR M' y6 (by rw[e,GY];simp) λb Y=>(k b Y).trans fr_
def c2a(T:b3!)(h:OS t M0 a o rl W)(dw:M0 p=none)(wi:Bu W)(hB:ap!<2000):∀(n:Nat) (cm fd:eE!) (y5 y6:T_) (M:Mh) (R:p_),(∀b,b≠p->M b=M0 b)->M p=some (.lst (cm.map pgD))->(∀q∈cm,Ez W q.2)->
  (cm.reverse.flatMap λq=>T.T q.1 q.2).length=n->cm.length<=n->mn_+n<=3000->(∀M' y5 y6,(∀b,b≠p->M' b=M0 b)->R (.nx (Mr a x0 o (fd++cm.reverse.flatMap λq=>T.T q.1 q.2) p y5 y6)) M')->Ch pC (pB t) bF! mo_ M R:=by
 intro n
 induction n with
 |zero=>
  intro cm fd y5 y6 M R hM hp hi hn bz hl hR;have:cm=[]:=NI.mp a!;subst this;have hc:Rp pC mo_ M false:=nN (iE (sB fV! (d:=bU!) (by simp[Pb,Rs,hp])) et! rfl);refine whF hc ?_;have:=hR M y5 y6 hM;show"#5"
 |succ n ih=>
  intro cm fd y5 y6 M R hM hp hi hn bz hl hR;obtain rfl|⟨init,⟨d,x⟩,rfl⟩:=List.eq_nil_or_concat cm
  .simp at hn
  .rw[List.concat_eq_append]at *;have hx:Ez W x:=hi cg_ c_;have er:(init++ck!).reverse.flatMap rV_=cg_::((bB_).flatMap eF_++init.reverse.flatMap λq=>T.T q.1 q.2):=by
    rw[List.reverse_append,PD,List.singleton_append,JT,T.eq d x];rfl
   have hOS:OS t M a o rl W:=h.keepN λb Y=>hM b λz=>Y (z▸dw);have ar:Pb M [.fn p]=some (.int rW!):=by simp[Pb,Rs,hp]
   have hc:Rp pC mo_ M true:=by
    refine nN (iE (sB fV! ar) et! ?_);show some (D.bl (decide ((0:Int)<rW!)))=_;rw[HY a!]
   refine whT hc ?_;refine c1p (fo:=Aa 4) (y:=pgD cg_) (xs:=init.map pgD) rfl (by rw[hp,HU];rfl) ?_;have ea:Ku 3 C! mm!=some (.nx rX!):=by
    show bY!=_;rw[fW_];simp[Mr]
   refine d0a ea ?_;have XW:OS t (Az M p (.lst yC!)) a o rl W:=h.keepN λb Y=>(mup_ne λz:b=p=>Y (z▸dw)).trans (hM b λz=>Y (z▸dw));unfold pF Df Ui;have e1:f2 Ai C! r! rX!=some x:=by
    show Ai ml! aI!=_;simp[pgD,Ai,Da,Dx]
   refine jM il_ (XW.nob d2g) (bK e1) (λK hK=>wU XW.out wi d! hx hK) _ ?_;have iu:(bB_).length<=ap!:=uA;rw[er,HA]at hn;have hcl':init.length<=n:=by rw[HE,IZ]at bz;omega
   refine b1g (bB_).reverse yC! y6 _ _ mup_same (by rw[HG,NZ];omega) λM' nh e k=>?_;have em:init.map pgD++(bB_).reverse.map (λc=>pgD f0_)=(it_).map pgD:=by rw[HU,JD];rfl
   have ef:(it_).reverse.flatMap rV_=(bB_).flatMap eF_++init.reverse.flatMap λq=>T.T q.1 q.2:=by
    rw[List.reverse_append,<-List.map_reverse,List.reverse_reverse,List.flatMap_append,List.flatMap_map]
   refine ih it_ (fd++ck!) _ _ M' R (λb Y=>((k b Y).trans fr_).trans (hM b Y)) (by rw[e,em]) d2_ (by rw[ef];omega) ?_ kY! λM2 y5 y6 k2=>?_
   .obtain z|z:=GZ.mp hq
    .exact hi q h7_
    .obtain⟨c,hc,rfl⟩:=HK.mp z;exact .inl ((wi.ri c).mp (GV (f:=b_) (cN.mp (List.mem_reverse.mp hc))))
   .have ge:∀l:List fY_,Y!<=(l.flatMap λq=>T.T q.1 q.2).length:=by
     intro l
     induction l with
     |nil=>exact HL _
     |cons q l ih=>rw[JT,HE,T.eq];simp only[HA];omega
    have:=ge (it_).reverse;rw[ef,NZ]at this;omega
   .have:=hR M2 y5 y6 k2;rw[er]at this;rw[ef];show"#5"
def b0e{g:Yr}{E:EK}{f1 f2:e_}{K:u_}(B:f1 ρ=some b)(J:f2 ρ=some c)(k:g [b,c] M K E):Kn 2 g E oK_ ρ M K:=by unfold Kn Ac Ag;rw[cY B,cY J];exact lf_
def b7p(T:b3!)(h:fY!)(wi:Bu W)(hB:ap!<2000)(hx:bC_)(hR:∀M',HS t M' a W->me!->R (.lst mq!) M'):Ph t [ab!,x] M R:=by
 obtain⟨k,hk⟩:=pP wi hx;refine o_;show Ah (An 2 (Kn 2 (Dr t) (λ_ _=>False) b8_)) (Ah (Rq i7_) (Ah nj_ r1_)) [r_,bD!,none,none,none,none,none] M _;refine hW (b0e (b:=ab!) (c:=x) rfl rfl (c1d h hk hx λM1 o rl B fr=>?_));show Ah nj_ r1_ [r_,bD!,G_,ei_,none,none,none] M1 _;unfold Ah An Ix Ac Ag;rw[cY (d:=pgD (0,x)) rfl];refine⟨(by decide:1<=1000),cS!⟩;refine⟨_,c2a T B hp wi hB (x0:=x) _ [(0,x)] [] none none _ _ (λb Y=>mup_ne Y) mup_same (λq hq=>by rw[kP!];exact hx) rfl ?_ ?_ λM' y5 y6 k=>?_⟩
 .show 1<=_;simp only[PD,JT,List.flatMap_nil,HV,T.eq,HA];omega
 .have:=T.len wi.rnd 0 x;simp only[PD,JT,List.flatMap_nil,HV,KD];omega
 .have e:([]++[(0,x)].reverse.flatMap λq=>T.T q.1 q.2)=T.T 0 x:=by simp
  rw[e];show Bn al_ (Mr a x o f6! p y5 y6) M' _;have k':∀b,M1 b≠none->M' b=M1 b:=λb Y=>k b λz=>Y (z▸hp);exact eU r5_ (hR M' (.old (B.keepN k')) λb Y hn=>(k' b (by rw[fr b Y hn];exact Y)).trans (fr b Y hn))
def b7q{E:EK}(h:fY!)(hx:¬Ez W eE_)(hE:rL_):Lf t [ab!,fj!] M R E:=by refine o_;show Ah tP! _ [r_,some eE_,none,none,none,none,none] M _;exact hW (b0e (b:=ab!) (c:=fj!) rfl rfl (c1e h hx hE))
end
def c3m{W W':OW}(hs:Sk W n d W'):∀x∈W'.its,x∈W.its\/x=n:=by
 cases hs with
 |put _ _ _=>
  intro x hx;have rc:x∈W.its++[n]:=hx;exact(GZ.mp rc).imp id HI.mp
 |mvY _ _ _ _ _=>exact λx hx=>.inl hx
 |mvN _ _ _ _=>exact λx hx=>.inl hx
 |drY _ _ _=>exact λx hx=>.inl hx
 |drN _ _=>exact λx hx=>.inl hx
 |wrt _ _ _ _=>split;exact λx hx=>.inl hx;exact λx hx=>.inl hx
 |cut _ _ _ _=>split;exact λx hx=>.inl hx;exact λx hx=>.inl hx
 |set _ _ _=>split;exact λx hx=>.inl hx;exact λx hx=>.inl hx
def b2e{W W':OW}{os:l!}(hr:Vp W os W'):∀x∈W'.its,x∈W.its\/x∈os.map Op.nm:=by
 induction hr with
 |nil=>exact λx hx=>.inl hx
 |cons hs _ ih=>
  intro x hx;obtain z|z:=ih x hx
  .obtain z|z:=c3m hs x z
   .exact bz_
   .exact .inr (by rw[z,GY];exact GX)
  .exact .inr (GP _ z)
def b6c{W:OW}{os:l!}(wi:Bu W)(hr:Vp W0 os W):ap!<=L_:=by
 have B:=vI (m:=os.map Op.nm) wi.rnd λx hx=>(b2e hr x ((iw_).mp hx)).resolve_left λz=>by cases z
 simpa using B
def CJ(n:Nat):WS:=An 3 (w2 Jt al_ (Ao 3 (Hc n) u8!))
section
variable{t:Ay}{M:Mh}{ρ:Ad}{w:xK!}{rl:Addr->LR}{W:OW}{x:D}{R:D->Mh->Prop}
def FO(M:Mh)(w:xK!)(W:OW)(T:b3!)(n:Nat):Prop:=∀(x:D) (d:Nat),Ez W x->(eG_).length<=n->Vq (Hc n) [bY_,x,.int (d:Nat)] M mu!
def b1z{T:b3!}{n d:Nat}(ih:FO M w W T n):∀(cs:a_) (acc:eE!) (y4:T_) (R:p_),(∀c∈cs,c∈W.its/\(T.T b2! c).length<=n)->ck_+(cs.flatMap eF_).length<=3000->
  (∀y4,R (.nx [B!,R_,ix_,some (.lst ((acc++cs.flatMap eF_).map pgD)),y4]) M)->Gf gm! Q! (CJ n) cs [B!,R_,ix_,some mv!,y4] M R
 |[],acc,y4,R,_,_,hR=>⟨trivial,by have:=hR y4;simpa using this⟩
 |c::cs,acc,y4,R,hc,hl,hR=>by
  obtain⟨hci,zr⟩:=hc c GX;rw[JT,HE]at hl;refine aN!;show CJ n sd! M _;unfold CJ An;have ea:f2 Al v! r! sd!=some rT!:=by show some rU!=_;simp
  have el:Jt M mv! (.lst ((T.T b2! c).map pgD))=some (.lst ((se!).map pgD)):=by
   show bY!=_;rw[HB (by simp only[HG];unfold big;omega),HU]
  refine iE (bK (d:=.lst (acc.map pgD)) rfl) (a5e mw! (bK (d:=c) rfl) (bK ea) (ih c b2! (.inl hci) zr)) el _ ?_;refine b1z ih cs se! (some c) R (λy hy=>hc y cw_) oa_ λy4=>?_;have:=hR y4;rw[JT,<-IY]at this;show"#;"
def a0f(T:b3!)(h:aa!)(wi:Bu W)(hB:ap!<2000):∀n,FO M w W T n
 |0=>λx d _ h=>by rw[T.eq,HA]at h;omega
 |n+1=>λx d hx hn K hK=>by
  refine o_;have hTl:=T.len wi.rnd d x;have he:(eG_).length=((bB_).flatMap eF_).length+1:=by rw[T.eq d x];rfl
  show Ah u7! (Ah (Df u7_ gm! (CJ n)) i9_) [B!,bD!,ix_,none,none] M _;refine mI (d:=.lst ((ck!).map pgD)) rfl ?_;unfold Ah Df Ds;refine sW (a:=bY_) (b:=x) rfl rfl (a4e h wi (a3f wi hx) a! ?_);refine b1z (a0f T h wi hB n) bB_ ck! none _ (λc hc=>⟨(wi.ri c).mp (GV (f:=b_) do_),by have:=T.child (d:=d) do_;omega⟩) (by rw[IZ];omega) λy4=>?_;have e:ck!++(bB_).flatMap eF_=T.T d x:=(T.eq d x).symm;rw[e];exact eU (bK (d:=.lst r8!) rfl) hK
end
section
variable{W:OW}(T:Tr W.rows)
def Tr.sub{q:Nat×D}:∀{n:Nat} {x:D} {d:Nat},T.f x<n->q∈T.T d x->(c,q.2)∈W.rows->(q.1+1,c)∈T.T d x
 |0,_,_,h,_,_=>absurd h (PJ _)
 |n+1,x,d,h,hq,hc=>by
  rw[T.eq]at hq ⊢;refine GP _ (OU.mpr ?_);obtain rfl|hq:=GR.mp hq
  .exact⟨c,cN.mpr hc,by rw[T.eq];exact GX⟩
  .obtain⟨y,hy,hq⟩:=OU.mp hq;have:=T.dec _ _ (cN.mp hy);exact⟨y,hy,Tr.sub (n:=n) a! hq hc⟩
def Tr.all{d:Nat}(h:Wn W.rows x y):y∈(eG_).map s_:=by
 induction h with
 |here=>rw[T.eq];exact GX
 |up h _ ih=>
  obtain⟨q,hq,e⟩:=HK.mp ih;exact HK.mpr ⟨_,T.sub bs_ hq (by rw[e];exact h),rfl⟩
def c6b(wi:Bu W):∀x∈W.its,Wn W.rows root x\/Wn W.rows Bi x:=by
 obtain⟨rk,hr⟩:=wi.rk;have go:∀n x,rk x<n->x∈W.its->Wn W.rows root x\/Wn W.rows Bi x:=by
  intro n
  induction n with
  |zero=>exact λx h=>absurd h (PJ _)
  |succ n ih=>
   intro x h hx;obtain⟨⟨_,p⟩,hp,rfl⟩:=HK.mp ((iw_).mpr hx);have:=hr _ _ hp;have h:rk _<n+1:=h;obtain z|rfl|rfl:=wi.rp _ _ hp
   .exact(ih p (HP this (Nat.le_of_lt_succ h)) z).imp (.up hp) (.up hp)
   .exact .inl zE_
   .exact .inr zE_
 exact λx hx=>go _ x bs_ hx
def a5t(wi:Bu W):D.str s∉W.its:=λh=>by obtain⟨a,b,e⟩:=wi.nm _ h;cases e
nonrec def told:List D:=(T.T 0 root).map s_++(T.T 0 Bi).map s_
def yL(wi:Bu W):(ct!).Perm iC!:=by
 have up:∀{x y:D},Wn W.rows x y->y=x\/y∈W.its:=λw=>by
  cases w with
  |here=>exact .inl rfl
  |up h _=>exact .inr sm_
 have ne:root≠Bi:=λz=>by
  injection z with z
  exact absurd z v_
 have dis:∀y,Wn W.rows root y->Wn W.rows Bi y->False:=λy B J=>by
  obtain w|w:=b5h wi.rnd B J
  .obtain z|z:=up w
   .exact ne z.symm
   .exact a5t wi z
  .obtain z|z:=up w
   .exact ne z
   .exact a5t wi z
 refine(List.perm_ext_iff_of_nodup ?_ ?_).mpr λy=>?_
 .refine IG.mpr ⟨sn_,sn_,yv_⟩;subst e;exact dis a (T.mem bs_ ha) (T.mem bs_ Y)
 .rw[HH,HH,GR];exact⟨λz=>z.elim ne (a5t wi),a5t wi,wi.nd⟩
 .unfold told;rw[GZ,GR,GR];show"!K"
  .rintro(h|h)
   .exact(so_).imp id .inr
   .exact .inr so_
  .rintro(rfl|rfl|h)
   .exact .inl (T.all .here)
   .exact .inr (T.all .here)
   .exact(c6b wi y h).imp T.all T.all
def d1q(wi:Bu W)(hx:bC_){d:Nat}{q:Nat×D}(hq:q∈T.T d x):Ez W q.2:=by
 have w:=T.mem bs_ mj!
 revert w
 generalize q.2=y;intro w;cases w with
 |here=>exact hx
 |up h _=>exact .inl sm_
end
def jQ{W:OW}(wi:Bu W)(h:bC_):Bd x=true/\Gs x<=3:=by
 obtain h|rfl|rfl:=h
 .obtain⟨a,b,rfl⟩:=wi.nm x h;exact⟨rfl,by simp[Gs,Dq]⟩
 .exact⟨rfl,R!⟩
 .exact⟨rfl,R!⟩
end K25
namespace K25
open PySem L2 DL
nonrec def sk(o:Op):Int×Int×Int:=(o.h,o.n,o.tm)
def c3t{os io:l!}(h:fH_)(e:io.map sk=os.map sk)(hd:∀o∈io,DG o.d):Hist io:=by
 have XX:∀k,(hs io k).map sk=(hs os k).map sk:=λk=>by
  have g:∀l:List Op,(hs l k).map sk=(l.map sk).filter λq=>decide (q.1=k):=λl=>by unfold hs;rw[PM];rfl
  rw[g,g,e]
 refine⟨λk=>⟨λi o' ho=>?_,?_⟩,λo' ho=>?_⟩
 .have B:((hs os k).map sk)[i]?=some (sk o'):=by rw[<-XX,IB,ho];rfl
  rw[IB]at B;obtain⟨o,g1,g2⟩:=GU.mp B;have:=(lq_).num i o g1;unfold sk at g2;injection g2 with _ g2
  injection g2 with g2 _
  rw[<-g2];show"#;"
 .have B:=(lq_).tim;have m:∀l:List Op,(l.Pairwise λa b=>a.tm<b.tm)↔(l.map sk).Pairwise λa b=>a.2.2<b.2.2:=λl=>by rw[ON];rfl
  rw[m]at B ⊢;rw[XX];exact B
 .have B:sk o'∈os.map sk:=by rw[<-e];exact GV ho
  obtain⟨o,g1,g2⟩:=HK.mp B;have f:=h.op o g1;unfold sk at g2;injection g2 with a g2
  injection g2 with b c
  exact⟨a▸f.hh,c▸f.t1,c▸f.t2,b▸f.n1,b▸f.n2,hd o' ho⟩
def FF:Ad->Option Fl:=(sSeq vb_
 (sSeq vc!
 ve_))
nonrec def mvC:Ad->Option Bool:=vb!
def CI:Ad->Option Fl:=sSeq u9_ (sSeq (Fs mvC FF Cn) (Ku 2 G!))
def c7l{ns:z!}{os:l!}{fd:a_}{j:Nat}{o:Op}(hO:fH_)(hl:L_<=100)(ho:os[j]?=some o)(Y:mn_<big):∃o' l9 nh,sk o'=sk o/\DG o'.d/\
  CI [H!,bI_,mK!,iD_,y4,y5,y6]=some (.nx [H!,bI_,some (.lst (fd++[o'.v])),iD_,some o'.v,l9,nh]):=by
 have XY:o∈os:=MU ho;have hj:j<L_:=(HC.mp ho).1;obtain⟨kk,r,ed,_⟩:=wP (hO.op o XY).dg;obtain⟨m1,e1,_⟩:=gW ns (k:=30+(j:Nat));obtain⟨m2,e2,_⟩:=gW ns (k:=40+(j:Nat));obtain⟨m3,e3,_⟩:=gW ns (k:=50+(j:Nat));obtain⟨its,ei,i1,i2,hi⟩:=a6m (ops:=os.map Op.v) (λx hx=>by obtain⟨y,hy,rfl⟩:=HK.mp hx;exact(hO.op y hy).ok) (by rw[HG];exact hl);have XZ:Ai ep! sq_=some o.v:=by
  show Da ay_ hw!=_;unfold Da Dx;rw[a8_,HB (by rw[HG];omega)];show ay_[(hw!).toNat]?=_;rw[LP,IB,ho];rfl
 obtain⟨b,hc⟩:∃b,mvC [some (scr ns),some (.lst (os.map Op.v)),some (.lst fd),some (.int (j:Nat)),some o.v,y5,y6]=some b:=by
  have c1:fT va! mM_=some (decide (0<m1%3)):=by
   unfold fT;rw[dN (g:=Jf) (dN (iV mN_ e1) rfl (vL d!)) rfl rfl];rfl
  have c2:fT va_ mM_=some (!([D.str "put",g9_].any λd=>Dy d (.str kk))):=by
   unfold fT;rw[dN (g:=Qp true) (x:=.str kk) (dN (x:=o.d) rfl rfl (by rw[ed];simp[Ai,Da,Dx])) rfl rfl];rfl
  unfold mvC Cp;rw[c1,c2];cases decide (0<m1%3)<;>exact I!
 cases b with
 |false=>
  refine⟨o,y5,y6,rfl,(hO.op o XY).dg,?_⟩;refine(su_).trans ?_;refine(bB (gP hc)).trans ?_;exact b0h rfl rfl Y
 |true=>
  obtain⟨p1,u6,RK⟩:=iQ (xs:=its.drop 1) (n:=m2) (λz=>by have:=congrArg List.length z;simp at this;omega);obtain⟨p2,ox,mp2⟩:=iQ (xs:=its) (n:=m3) (λz=>by rw[z]at i1;simp at i1);have esl:Bg hb_ cf_ none=some (.lst (its.drop 1)):=by
   show some (D.lst o4_)=_;have:Db its cf_ none=its.drop 1:=by
    unfold Db;have a:HT.sIx its.length 0 cf_=1:=by simp[HT.sIx];omega
    have b:HT.sIx its.length its.length none=dS_:=rfl;rw[a,b];exact PB (by rw[OX];exact HL _)
   rw[this]
  refine⟨sv!,bG_,some p1,rfl,.move (hi _ (List.drop_subset _ _ RK)) (hi _ mp2) aF_,?_⟩;refine(su_).trans ?_;have hT:FF mM_=some (.nx [H!,bI_,mK!,iD_,some (Op.v sv!),bG_,some p1]):=by
   refine(bB (eV (iV fm! ei))).trans ?_;refine(bB (eV (a5g (by show(Bg hb_ cf_ none)=_;exact esl) (iV mN_ e2) u6))).trans ?_;exact eV (dN rfl (a7z (bV (a7z (bV rfl (bV rfl (bV (a5g rfl (iV mN_ e3) ox) fm!))) rfl) rfl) rfl) rfl)
  refine(bB ((a9q hc).trans hT)).trans ?_;exact b0h rfl rfl Y
def b8j(ns:z!){os:l!}(hO:fH_)(hl:L_<=100):∃io,Nm [cF!,iH_]=some (.lst (io.map Op.v))/\io.length=L_/\Hist io:=by
 let P:Nat->Ad->Prop:=λi ρ=>∃(fd:l!) (x3 x4 x5 x6:T_),ρ=[H!,bI_,some sw_,x3,x4,x5,x6]/\fd.map sk=(os.take i).map sk/\∀o∈fd,DG o.d
 obtain⟨ρ',e,fd,x3,x4,x5,x6,rfl,B,J⟩:=lQ (bnd:=Bq 3) (q:=CI) P (Cq L_) 0
  (mP_) ⟨[],none,none,none,none,rfl,F!,AN!⟩ (by
   rintro j d ρ hd ⟨fd,x3,x4,x5,x6,rfl,g1,g2⟩;unfold Cq at hd;rw[IB]at hd;obtain⟨i',df,rfl⟩:=GU.mp hd;obtain⟨ao,he⟩:=HC.mp df;rw[NJ]at he;subst he;rw[KQ]at ao;rw[NT]at g1;have lf:mn_<=L_:=by have:=congrArg List.length g1;simp at this;omega
   obtain⟨o',y5,y6,k1,k2,k3⟩:=c7l (ns:=ns) (fd:=fd.map Op.v) (y4:=x4) (y5:=x5) (y6:=x6) hO hl (HJ ao) el_;refine⟨_,_,rfl,k3,fd++[o'],_,_,_,_,lq!,?_,λo ho=>?_⟩
   .rw[NT,HU,g1,List.take_succ,HU,HJ ao];show _++[sk o']=_++[sk _];rw[k1]
   .obtain z|z:=GZ.mp ho
    .exact g2 o z
    .rw[bI!];exact k2)
 have lr:(Cq L_).length=L_:=by unfold Cq;simp
 rw[NT,lr,List.take_length]at B;refine⟨fd,?_,by have:=congrArg List.length B;simpa using this,c3t hO B J⟩;show Bw _ 2 Nj [cF!,iH_]=_;unfold Bw;rw[gF_];have e0:Nj sA!=some (.rt sw_):=by
  show sSeq (Ir 2 Af) (sSeq (Ng (Fc dI!) P! CI) (Be v!)) _=_;rw[bB (ρ':=mP_) rfl];have hi:Fc dI! mP_=some (Cq L_):=by
   have hr:-1000<=(L_:Int)/\(L_:Int)<=100000:=by omega
   simp[Fc,Aa,f1,Ab,Af,Bk,hr]
  rw[bB (show Ng (Fc dI!) P! CI _=_ by unfold Ng;rw[hi];exact e)];rfl
 show(match Nj sA! with|some (.rt d)=>some d|some (.nx _)=>some .non|none=>none)=_;rw[e0]
end K25
namespace K25
open PySem L2 DL
open Classical
def nes{M:Mh}(h:ce!)(hd:Gs d<=40)(hr:Vx M d=d):Yn M d d=some ah_:=by unfold Yn Fb;rw[hr,h,iM d h,HY hd];rfl
nonrec def lE(s ops:D)(a w:xK!)(td:a_)(y5 y8:T_):Ad:=[cD!,some ops,r_,B!,some (.lst td),y5,none,none,y8]
def EG(t:Ay):WS:=(Ah vk_
 (Ah vl_
 (Ah vn!
 vo!)))
section
variable{t:Ay}{M:Mh}{a w:xK!}{rl:Addr->LR}{W:OW}{s ops:D}
def c6o{l:eE!}(hl:Y!<=1000):Ct vm_ iJ_=some false:=by
 obtain⟨ys,e,_,hr⟩:=jT (ρ:=bG!) (bnd:=Bl 0) (ft:=kv!) (fe:=Cc iC_ nP_) ru! eJ_ (by
  intro d hd;obtain⟨q,_,rfl⟩:=HK.mp hd;exact⟨mR!,true,rfl,rfl,λ_=>⟨eC_,rfl,rfl⟩⟩)
 have hc:Ep 1 [] jx_ N_ ai! (Cc iC_ nP_) iJ_=some aR_:=by
  show sC_;rw[fW_,e];rfl
 unfold Ct fT;rw[b9s (b0j hc)];show Option.map _ (((Ke ys).map l4!).bind _)=_;rw[qA hr];show some (!((l2!).all id))=_;rw[l4_];rfl
def b7d{l:eE!}{td:a_}(hl:Y!<=1000)(ht:td.length<=1000):f2 Al G! vn_ iJ_=some (.lst (td++l.map s_)):=by
 have e:∀l:List fY_,Ei N_ ai! b4! bG! eJ_=some (l.map s_):=by
  intro l
  induction l with
  |nil=>rfl
  |cons q l ih=>
   have B:f2 Ai l_ r! mR!=some q.2:=by show Ai (pgD q) aI!=_;simp[pgD,Ai,Da,Dx]
   show Option.bind (f2 Ai l_ r! mR!) (λy=>(sD_).map (y::·))=_;rw[B];show(sD_).map _=_;rw[ih];rfl
 have hc:Ep 1 [] jx_ N_ ai! b4! iJ_=some (.lst (l.map s_)):=by
  show sC_;rw[fW_,e];rfl
 refine dN rfl hc ?_;show bY!=_;rw[fW_]
def b7c(wi:Bu W)(T:b3!)(hx:bC_){d:Nat}:Bd mu!=true/\Gs mu!<=40:=by
 have h:∀y∈(eG_).map pgD,Bd y=true/\Gs y<=6:=λy hy=>by
  show"#-";obtain⟨B,J⟩:=jQ wi (d1q T wi hx hq);refine⟨by show Bx [.int _,q.2]=true;simp[Bx,Bd,B],?_⟩;show Dq [.int _,q.2]+1<=6;simp only[Dq,Gs];omega
 refine⟨mS λy hy=>(h y hy).1,?_⟩;show Dq _+1<=40;have:=pX (n:=6) (ds:=(eG_).map pgD) λy hy=>(h y hy).2;omega
def d0g(wi:Bu W)(hx:bC_):Hl false M x (.tup [kr_,ks!])=some (.bl p1!):=by
 have B:=(jQ wi hx).1;show bY!=_;rw[HB (by rw[B];rfl)];congr 2;show([D.str "root",ks!].any λd=>Dy d x)=_;rw[KF,QS,decide_eq_true_iff];have rc:x=root\/x=Bi\/He x:=by
  obtain z|z|z:=hx
  .exact .inr (.inr (wi.nm x z))
  .exact bz_
  .exact .inr dU!
 obtain rfl|rfl|⟨i,j,rfl⟩:=rc
 .exact⟨λ_=>.inl rfl,λ_=>⟨root,by simp[root],iM _ rfl⟩⟩
 .exact⟨λ_=>.inr rfl,λ_=>⟨Bi,by simp[Bi],iM _ rfl⟩⟩
 .show"!K"
  .rintro⟨y,hy,e⟩;simp only[GR,IJ,KL]at hy;obtain rfl|rfl:=hy<;>exact absurd e (by simp[Dy])
  .rintro(z|z)<;>cases z
def Yb(T:b3!)(xs:a_):List D:=xs.flatMap λx=>if x=root\/x=Bi then(f6!).map s_ else[]
def vQ(T:b3!)(wi:Bu W)(hB:ap!<19)(ra:rl a=.oth):∀(xs:a_) (td:a_) (y5 y8:T_) (M:Mh) (R:p_),HS t M a W->Br M w rl W->(∀x∈xs,Ez W x)->td.length+20*i!<=1000->
  (∀M' y5 y8,HS t M' a W->Br M' w rl W->R (.nx (lE s ops a w (td++Yb T xs) y5 y8)) M')->Gf (Bq 5) Q! (EG t) xs (lE s ops a w td y5 y8) M R
 |[],td,y5,y8,M,R,h,hL,_,_,hR=>⟨trivial,by have:=hR M y5 y8 h hL;unfold Yb at this;simpa using this⟩
 |x::xs,td,y5,y8,M,R,h,hL,hx,hl,hR=>by
  have yh:=hx x GX;rw[HA]at hl;have tl:=T.len wi.rnd 0 x;refine aN!;show EG t (lE s ops a w td dC_ y8) M _;refine hW (sW (a:=ab!) (b:=x) rfl rfl (b7p T h wi a! yh λM1 B fr=>?_));have qc:Br M1 w rl W:=hL.keep λc hc=>fr c (hL.live hc) λz=>hc (by rw[z];exact ra);show Ah _ _ sH! M1 _;obtain⟨n1,n2⟩:=b7c wi T yh (d:=0);refine jX (c5f (b:=false) (a5d rfl) (λ_=>nN (iE r5_ (a5e mw! mh_ (bK (d:=.int cW_) rfl) (a0f T qc wi a! 20 x 0 yh a!)) (nes n1 n2 rfl))) fT_) ?_;refine jX (a5d (c6o a!)) ?_;have j6:Rp vp! sH! M1 p1!:=nN (iE mh_ (bK (d:=.tup [kr_,ks!]) rfl) (d0g wi yh));have et:Yb T iT!=(if x=root\/x=Bi then(f6!).map s_ else[])++Yb T xs:=by unfold Yb;rw[JT]
  by_cases c:x=root\/x=Bi
  .rw[HY c]at j6;rw[HB c]at et;refine uI j6 ?_;unfold An;rw[cY (b7d a! a!)];refine vQ T wi hB ra xs (td++(f6!).map s_) dC_ _ M1 R B qc sH_ (by rw[HE,HG];omega) λM' y5 y8 g1 g2=>?_;have:=hR M' y5 y8 g1 g2;rw[et,<-IY]at this;show"#;"
  .rw[HF c]at j6;rw[GS c]at et;refine uJ j6 ?_;refine vQ T wi hB ra xs td dC_ _ M1 R B qc sH_ a! λM' y5 y8 g1 g2=>?_;have:=hR M' y5 y8 g1 g2;rw[et]at this;show"#;"
def c1m(T:b3!)(wi:Bu W):Yb T iC!=told T:=by
 have e:∀xs:List D,(∀x∈xs,x∈W.its)->Yb T xs=[]:=λxs h=>List.flatMap_eq_nil_iff.mpr λx hx=>by
  rw[GS];rintro(rfl|rfl)<;>exact a5t wi (h _ hx)
 show bY!++(bY!++Yb T W.its)=_;rw[HB aF_,HB g5_,e _ λ_ h=>h,HV];rfl
def c7o{ρ:Ad}{f:e_}{m k:Int}(h:f ρ=some cB_)(hk:0<k):f2 Bz f (fC (.int k)) ρ=some (.int (m%k)):=dN h rfl (vL hk)
def d2s(l:a_):Ll [.lst mU!]=some A!:=by show(Ke mU!).map l4!=_;rw[qA (λy hy=>by obtain⟨_,_,rfl⟩:=HK.mp hy;rfl)];show some (D.bl (((mU!).map λ_=>true).all id))=_;rw[l4_]
def c1k(T:b3!)(wi:Bu W)(hx:n8!):Hl false M x (.lst ct!)=some A!:=by
 have hp:=yL T wi;have hm:∀y∈told T,Ez W y:=λy hy=>by
  have:=hp.mem_iff.mp hy;simp only[GR]at this;obtain z|z|z:=this
  .exact .inr dU!
  .exact e5!
  .exact bz_
 have hd:=pX (n:=3) (ds:=told T) λy hy=>(sJ!).2;have B:=(jQ wi (.inl hx)).1;show bY!=_;rw[HB (by rw[B,mS λy hy=>(sJ!).1,HY a!];rfl)];show some (D.bl sJ_)=_;rw[show sJ_=true from QS.mpr ⟨x,hp.mem_iff.mpr (by simp[hx]),iM x B⟩]
def b8w{ns:z!}(nd:t.nd):Yo t lD! M0 (λd _=>d=.bl true):=by
 obtain⟨m,em,m0,_⟩:=gW ns (k:=60);have hN0:0<=m%13:=LA _ d!;have hN1:m%13<13:=JW _ d!;obtain⟨N,hN⟩:∃N:Nat,(N:Int)=m%13:=⟨(m%13).toNat,u!⟩;obtain⟨os0,ew,hl0,hO0⟩:=b2v ns 0 N a!;obtain⟨os,ev,hl1,hO⟩:=b8j ns hO0 a!;have jq:L_<64:=by omega
 have hp:(iP!).Perm os:=cG os;have X0:(sL_).Sublist iP!:=OA;have hel:(sL_).length<=13:=by have:=X0.length_le;have:=hp.length_eq;omega
 refine o_;show Ah vh! _ sM! M0 _;have J:=c7o (ρ:=sM!) (f:=f1 Bt vg_) (iV (bV rfl fm!) em) (k:=13) d!;rw[<-hN]at J;refine mI (iV (bV rfl (bV (iV (c9m rfl rfl J) ew) rfl)) ev) ?_;show Ah vi_ _ [H!,bI_,none,none,none,none,none,none,none] M0 _;refine hW ?_;refine b4k λa ta wa M1 ha hA _=>?_;show Ah vj! _ sM_ M1 _;refine a4m (sW (a:=ab!) (b:=iH_) rfl rfl (c1n nd hA hO jq λM2 kl ca yg=>?_));show Ah vj_ _ sM_ M2 _;refine hW (a7o (a:=iH_) rfl (c1a hO.keys hO.names jq (λo ho=>(hO.op o ho).dg) λw M3 rl W _ hr hL ⟨pre,hw⟩ bp fr=>?_));have ra:rl a=.oth:=(fr a (by rw[yg.ob];simp)).2;have h:HS t M3 a W:=.new (yg.keep λb Y=>(fr b Y).1) hO jq hr;have wi:=hw.inv;have hrl:=b6c wi hr;have ip:cm!=ap!:=by
  have e1:=vI (m:=W.rows.map b_) wi.nd λx hx=>(iw_).mpr hx;have e2:=vI (m:=W.its) wi.rnd λx hx=>(iw_).mp hx;rw[HG]at e1 e2;omega
 obtain⟨T⟩:=c9y wi.rk;show Ah (An 4 gs!) _ [H!,bI_,r_,B!,none,none,none,none,none] M3 _;refine mI (d:=hG!) rfl ?_;show Ah (Df vk! (Bq 5) (EG t)) _ (lE he! ep! a w [] none none) M3 _;have tx:∀{M:Mh} {td:a_} {y5 y8:T_},Br M w rl W->∃wt e,Pu jw! (lE he! ep! a w td y5 y8) M du!/\Dl M du!=some (wt,pQ_,e)/\M wt=some (.dct pQ_ e):=λ{M td y5 y8} h=>by
  obtain⟨wt,wn,qa,X1⟩:=h;obtain⟨e0,hw0⟩:=X1.mw;obtain⟨e1,xt⟩:=X1.mt;exact⟨wt,e1,iE mw! (bK (d:=.str "texts") rfl) ((mV (k:=some (.inl (.inr "texts"))) hw0 rfl).trans k3t),by simp[Dl,xt],xt⟩
 have ek:(bZ_).map b_=W.its:=by rw[JD];exact List.map_id _
 obtain⟨wt,e1,p1,c1,_⟩:=tx (td:=[]) (y5:=none) (y8:=none) hL;unfold Ah Df Ds;refine iE (bK (d:=.lst kP_) rfl) (sB p1 (show Qm M3 [.fn wt]=some (.lst W.its)by show Option.map _ (Dl M3 du!)=_;rw[c1];show some (D.lst _)=_;rw[ek])) (show Jt M3 (.lst kP_) (.lst W.its)=some (.lst iC!)by show bY!=_;rw[HB (by simp only[HA,KD];unfold big;omega)];rfl) _ ?_;refine vQ T wi a! ra iC! [] none none M3 _ h hL (λx hx=>?_) (by simp only[HA,KD];omega) λM4 y5 y8 h4 hL4=>?_
 .simp only[GR]at hx;obtain z|z|z:=hx
  .exact .inr dU!
  .exact e5!
  .exact bz_
 rw[JO,c1m T wi];have tl:(ct!).length=cm!+2:=by rw[(yL T wi).length_eq];rfl
 obtain⟨wt,e2,p2,c2,k2⟩:=tx (td:=told T) (y5:=y5) (y8:=y8) hL4;show Ah vq! _ sT! M4 _;refine jX (c5f (b:=false) (nN (iE (bK (d:=.int ((cm!+2:Nat):Int)) ?_) (iE (sB p2 (d:=.int (cm!:Nat)) ?_) rh_ ?_) (nes rfl (by simp[Gs]) rfl))) (λ_=>a8p (b:=true) (nN (sB (x:=.lst (W.its.map λ_=>.bl true)) p7_ (d2s _)))) fT_) ?_
 .rw[b9s (b0j (d:=.lst ct!) rfl)];show some (D.int ((ct!).length:Nat))=_;rw[tl]
 .show Option.map _ (Dl M4 du!)=_;rw[c2];show some (D.int (((bZ_).length:Nat):Int))=_;rw[HG]
 .show some (D.int ((cm!:Nat)+2))=_;simp
 .unfold Dt Oj;refine p2 _ ?_;rw[c2];refine iR ?_;show(((bZ_).map b_).length<=big)/\Qq N_ _ _ _ [none,mY_] ((bZ_).map b_) M4 _;rw[ek];refine⟨by unfold big;omega,eE hC_ (λ_=>.bl true) k2 _ _ (λd hd=>⟨[some d,mY_],rfl,ld!,λ_=>iE (bK (d:=d) rfl) (bK (d:=.lst ct!) rfl) (c1k T wi hd)⟩) (by rw[KA.mpr λ_ _=>rfl];exact hK)⟩
 show Ah (An 6 jm!) _ sT! M4 _;refine mI (d:=l8_) rfl ?_;show Ah vr! (Bn (wl aI_)) [H!,bI_,r_,B!,mY_,y5,some ah_,none,y8] M4 _;unfold Ah Xa Bm;refine b0e (b:=ab!) (c:=fj!) rfl rfl (b7q h4 (λz=>?_) λM'=>?_)
 .obtain z|z|z:=z
  .obtain z|z:=b2e hr _ z
   .cases z
   .obtain⟨o,ho,e⟩:=HK.mp z;have hh:=(hO.op o (hp.mem_iff.mp (X0.subset ho))).hh;unfold Op.nm at e;injection e with e
    injection e with e _
    injection e with e
    omega
  .cases z
  .cases z
 .unfold BL;rw[m_];refine iR ?_;show Bn (wl aI_) [none,none,none,none,none,none,some A!,none,none] M' _;exact eU (bK (d:=eC_) rfl) rfl
end
end K25
namespace K25
open PySem L2 DL
section
variable{P:z3!}{w:yt!}{K:z1!}{mg:Str->Option Value}{base:Heap}{t:Ay}
def lI(T:h!):Ok P w K mg base 1 "is_whole" o! (Fm):=
 dW (σ:=[]) (k:=0) T.D1 a4n (λhr=>(aU (bN (iO sX_ (iO sY! (fY (fJ b1p b1r (bU c0w c9e rfl T.P9 c9i b7!) (aW c6v c7c aB aB) t_)))))))
def iH(T:h!):Ok P w K mg base 2 "is_from_one" o! (Dv):=
 dW (σ:=[]) (k:=1) T.D3 uP (λhr=>(aU (bN (iO sZ_ (fY (fJ d0o d0q E! aB t_))))))
def lJ(T:h!):Ok P w K mg base 2 "is_below" f2! (Gp):=
 dW (σ:=[]) (k:=1) T.D2 a4p (λhr=>(aU (bN (iO sZ_ (fY (a7h lG lH b1p b1r aB E! af!))))))
def iG(T:h!):Ok P w K mg base 3 "is_name" o! (Eb):=
 dW (σ:=[]) (k:=2) T.D4 a8g (λhr=>(aR m1! (aU (bN (iO (aO (lJ T) d_ rfl (aC a1! (aC (gS T.S0 rfl) aK)) af_) (fY s2_))))))
def kW(T:h!):Ok P w K mg base 4 "is_sign_name" o! (Ea):=
 dW (σ:=[]) (k:=3) T.D5 sX (λhr=>(aR m1! (aU (bN (iO s3! (fY (aO (lJ T) d_ rfl (aC a1! (aC m2_ aK)) af_)))))))
def a8x(T:h!):Ok P w K mg base 4 "is_item" o! (Go):=
 dW (σ:=[]) (k:=3) T.D6 a8h (λhr=>(aU (bN (zV s4! (zV yb_ (fY yb_))))))
def xK(T:h!):Ok P w K mg base 4 "is_sibling" o! (Ey):=
 dW (σ:=[]) (k:=3) T.D7 xE (λhr=>(aU (bN (zV s5_ (fY s4!)))))
def a1g(T:h!):Ok P w K mg base 5 "is_behind" o! (Fq):=
 dW (σ:=[]) (k:=4) T.D8 a0r (λhr=>(aU (bN (zV s5_ (fY (aO (kW T) d_ rfl b7! at!))))))
def a8w(T:h!):Ok P w K mg base 1 "is_sign" dD_ (Gm):=
 dW (σ:=[]) (k:=0) T.D9 a8e (λhr=>(aU (bN (iO (a7h lG lH lG lH aT E! aT) (fY (fJ yU yW (bU c0t c9d rfl T.Q9 c9h b7!) (gS T.S9 rfl) t_))))))
def a8v(T:h!):Ok P w K mg base 2 "is_text" o! (Jh):=
 dW (σ:=[]) (k:=1) T.E1 a8d (λhr=>(aR (gA (tJ (zU (fX (fH (gE a3d rfl T.Q6 rfl T.R7 bP b0f E!))) (rQ (fX (b9z lG lH lG lH aB gn! m2_))))) eM_ dM) (aU (bN (bU gp_ wW rfl T.Q0 wY (aC (iX (NL:=dD_) (NF:=[]) (ix:=[]) rfl d! v_ (cI (sc:=Ae Mp) rfl v_) Ee.nil d! rfl (c8t E!) (λ_ _ _ _ _=>bF (i:=0) (show(dD_:List Str).Nodup by decide+kernel) rfl b!) aQ_ dO! (λ_ _ _ _ _=>(aO (a8w T) d_ rfl b7! at!))) aK))))))
def a5n(T:h!):Ok P w K mg base 3 "is_place" o! (Hz):=
 dW (σ:=[]) (k:=2) T.E2 a4o (λhr=>(aU (bN (aO (lJ T) d_ rfl (aC E! (aC (gS T.S8 rfl) aK)) af_))))
def gX{g:ac_}{ps:n!}{k:Nat}(h:Ok P w K mg base k x ps g)(hm:mg x=some bi_)(hp:T!=1)(hk:k<=5):∃fd ps,T!=1/\Fe P w K mg base Pf 5 ae fd ps ka_/\Eu K fd ps []/\W.keepIn K bi_=true:=by obtain⟨f',fd,B,J,h3,h4⟩:=h;rw[hm]at h3;cases h3;exact⟨fd,ps,hp,B.mono hk,J,h4⟩
def c3z(T:h!):Yu P w K mg base 5 1 (Km t):=by
 intro ae g e;unfold Km at e;show"!7"
 .show"!6";exact gX (a8x T) T.T1 rfl d!
 show"!7"
 .show"!6";exact gX (xK T) T.T2 rfl d!
 show"!7"
 .show"!6";exact gX (a1g T) T.T3 rfl d!
 show"!7"
 .show"!6";exact gX (a8v T) T.T4 rfl d!
 show"!7"
 .show"!6";exact gX (kW T) T.T5 rfl d!
 show"!7"
 .show"!6";exact gX (iH T) T.T6 rfl d!
 show"!7"
 .show"!6";exact gX (a5n T) T.T7 rfl d!
 show"!7"
 .show"!6";exact gX (lI T) T.T8 rfl d!
 show"!7"
 .show"!6";exact gX (iG T) T.T9 rfl d!
 cases e
def kD(T:h!):Es P w K mg base 1 t.B3 "have" f8! (Eh t):=
 cU (σ:=[]) (k:=0) T.U0 T.K9 a0w (λhr=>(aG (bX (jN cD b0c rfl T.Q7 dO (aF (vP x! eQ_ y! iZ! c5_) aP)))))
def a9a(T:h!):Vk P w K mg base 1 "Hand" t.B3 f7_ (Lr t):=
 a1k (σ:=[]) (k:=0) T.K8 a8j (λhr=>(aE (fV T.U0 T.V6 p! y!) (aE (fV T.U0 T.V7 p! fA) (aE (fV T.U0 T.V8 p! (tU aP)) th_))))
def b7z(T:h!):Ok P w K mg base 1 "_law_cell" cY! (No):=
 dW (σ:=[]) (k:=0) T.N8 b5x (λhr=>(aR (gA (a7e E!) tk! dM) (aU (bN aB))))
def a1j(T:h!):Nt P w K mg base 1 "_law_children" ga_ (Il):=
 cX (σ:=[]) (k:=0) T.P5 a0v (λhr=>(aG (bX (tV (NL:=c6!) (NF:=[aH_]) (ix:=[1]) rfl d! v_ (cI (sc:=Ae Jn) rfl v_) m7_ d! rfl (fW bv_) m8_ aQ_ tn! to!))))
def eQ(T:h!):Ok P w K mg base 2 "_law_mix" cY! (Bt):=
 dW (σ:=[]) (k:=1) T.N9 a0u (λhr=>(aR (eC (i:=2) a0u.nd rfl b! (aW eW eX (aW aN bE (aO (b7z T) d_ rfl (aC E! c6_) af_) (aW qT qU aB tp!)) aB)) (aR (eC (i:=2) a0u.nd rfl b! (aW eW eX (aW qT qU ai_ aB) aB)) (aU (bN (aW eW eX (aW aN bE (aW qT qU (aW mM mO ai_ aB) aB) ai_) aB))))))
def zA(T:h!):Ok P w K mg base 1 "_law_items" aF! (Ib):=
 dW (σ:=[]) (k:=0) T.O1 b3k (λhr=>(aU (bN (aW aN bE (aW aN bE (fI (n:=8) rfl) (iX (NL:=c6!) (NF:=[]) (ix:=[]) rfl d! v_ (cI (sc:=Ae Od) rfl v_) Ee.nil d! rfl i1_ i2! aQ_ (λ_ _ _ _ _=>d0i (bI aJ! cB na_ aT t_)) ts_)) (fI (n:=12) rfl)))))
def b4b(T:h!):Ok P w K mg base 1 "_law_signs" aF! (Lj):=
 dW (σ:=[]) (k:=0) T.O2 mJ (λhr=>(aR (kR (i:=1) mJ.nd rfl b! (aC cZ (aC tv_ aK))) (aR (a3s IH rfl i1_ mJ.nd rfl b! (aU (gA (bI aJ! cB i3! aT t_) (aU (a3s IH rfl (gR rfl T.R0 (bU cD eG rfl T.Q7 dO (aC i3! aK))) mJ.nd rfl b! (aU (jS (i:=1) d! (cK (aC a2! (aC a2! nc!))))))) dM))) (wO (aU (bN af!))))))
def b7v(T:h!):Ok P w K mg base 1 "_law_text" pA_ (Nl):=
 dW (σ:=[]) (k:=0) T.O3 a4r (λhr=>(aR (eC (i:=2) a4r.nd rfl a4! aT) (aU (bN (c4l aT (iX (NL:=[bc_]) (NF:=[cY_,mw_]) (ix:=[0,2]) rfl d! v_ (cI (sc:=Ae Pt) rfl v_) (Ee.cons (j:=0) tB_) d! rfl (gR rfl T.R0 (aW aN bE aB (aW eW eX E! af!))) (λ_ _ _ _ _=>bF (i:=0) (show([bc_,cY_,mw_]:List Str).Nodup by decide+kernel) rfl b!) aQ_ dO! (λ_ _ _ _ _=>(aM aH aL ai_ (aW eW eX (aW mM mO af! (aW aN bE aB (aW qT qU aB E!))) aB) q_))))))))
def gM(T:h!):Ok P w K mg base 1 "_law_pick" f9_ (Cw):=
 dW (σ:=[]) (k:=0) T.O4 b5v (λhr=>tk!)
def b7y(T:h!):Ok P w K mg base 3 "_law_deed" mz_ (Jr):=
 dW (σ:=[]) (k:=2) T.O5 eY (λhr=>(aR (eC (i:=4) eY.nd rfl b! (aO gv_ d_ rfl (aC E! c6_) af_)) (aR (eC (i:=5) eY.nd rfl b! (aO (zA T) d_ rfl eT! at!)) (aR (eC (i:=6) eY.nd rfl b! (aO dQ! d_ rfl (aC (aW aN bE tF! (dC am_ dU c4!)) gw!) af_)) (aR (eC (i:=7) eY.nd rfl b! (aO dQ! d_ rfl (aC (aW aN bE am_ i5_) gw!) af_)) (aR (gA (fH (gE a3d rfl T.Q6 rfl T.R7 bP b0f dQ_)) (aU (eC (i:=7) eY.nd rfl b! cZ)) dM) (aR (eC (i:=8) eY.nd rfl b! (fI (n:=19) rfl)) (aR (eC (i:=9) eY.nd rfl b! (aM aH aL bP_ tJ! q_)) (aR (gA gw_ (aU (bN (cK (aC cv_ tK!)))) dM) (aR (gA gw_ (aU (bN (cK (aC cv_ (aC bw! tK!))))) dM) (aR (gA gw_ (aU (bN (cK (aC cv_ ng_)))) dM) (aR (eC (i:=10) eY.nd rfl b! (aO dQ! d_ rfl (aC (aO (b4b T) d_ rfl eT! at!) gw!) af_)) (aR (gA gw_ (aU (bN (cK (aC cv_ (aC bw! (aC i7! (aC (aO (b7v T) d_ rfl (aC tG! nc!) af_) aK))))))) dM) (aR (gA (tJ (rR gw_ (mX (bI mL mR i7! cZ t_)))) (aU (bN (cK (aC cv_ (aC bw! (aC i7! (aC (aW aN bE aB (aW eW eX tN! (aW qR rA aB (aM aH aL i7! aB q_)))) aK))))))) dM) (aR (gA (bI b3w c5h cv_ i5_ rfl) (aU (bN (cK (aC aT (aC bw! (aC tP_ (aC (aW qR rA tP_ aB) aK))))))) dM) (aR (eC (i:=11) eY.nd rfl b! (aW aN bE (iX (NL:=c6!) (NF:=[]) (ix:=[]) rfl d! v_ (cI (sc:=Ae Py) rfl v_) Ee.nil d! rfl (fB ai_) i2! aQ_ dO! ts_) (mD (aC (cK (aC aB (aC (aW aN bE aB tJ!) aK))) aK)))) (aU (bN (cK (aC cv_ (aC (aO dQ! d_ rfl (aC (aA 11) gw!) af_) aK)))))))))))))))))))))
def a5p(T:h!):Nt P w K mg base 1 "_law_hang" cZ_ (Ga):=
 cX (σ:=[]) (k:=0) T.O9 jL (λhr=>(aE (oX (i:=4) (NL:=c6!) (NF:=[aH_]) (ix:=[1]) jL.nd rfl b! rfl d! v_ (cI (sc:=Ae Pw) rfl v_) m7_ d! rfl (fW bv_) m8_ aQ_ (λ_ _ _ _ _=>a5z (fE (bI eT_ vG a1! af! t_))) tV!) (aE (aZ (i:=5) jL.nd rfl b! au!) (aE (iJ IH (fE (tJ (rR (bI b1p b1r am_ nl_ t_) (mX (bI eT_ vG (aM aH aL (aM aH aL aR! am_ q_) aB q_) ai_ t_))))) (aG (aZ (i:=5) jL.nd rfl b! (aD (aW aN bE am_ aB))))) (aE (eO IH rfl (tH (gR rfl T.R0 nl_)) (bF (i:=6) jL.nd rfl b!) (dB 6) (aG (cL (fE (tJ (rR (bI mL mR aK! cZ t_) (mX (bI aJ! cB (aM aH aL aR! bw! q_) (cK (aC aK! eT!)) t_))))) (aG (aZ (i:=5) jL.nd rfl b! (aD (aW aN bE bw! aB)))) bT))) (aG (dG x! p! bf! (aD (aW aN bE (aW aN bE (dC aR! dU (dS am_)) (mD (aC (cK (aC af! eT!)) aK))) (dC aR! (dS am_) dU))))))))))
def b7x(T:h!):Nt P w K mg base 1 "_law_lies" mB_ (Lq):=
 cX (σ:=[]) (k:=0) T.P0 uR (λhr=>(aE (iJ IH (fE tY!) (aE (oX (i:=3) (NL:=c6!) (NF:=[aH_]) (ix:=[1]) uR.nd rfl b! rfl d! v_ (cI (sc:=Ae Pv) rfl v_) m7_ d! rfl (fW bv_) m8_ aQ_ tn! to!) (aE (cL (fE (fX (a7e aK!))) gy_ bT) (aG (aZ (i:=1) uR.nd rfl a4! gz!))))) gy_))
def a5o(T:h!):Nt P w K mg base 2 "_law_move" cZ_ (Ik):=
 cX (σ:=[]) (k:=1) T.P1 b5w (λhr=>(aG (cL (xN (nS (dZ bw_ eM y! bv_ rfl) (kE (xN (b8g (dZ bw_ eM P_ bv_ rfl) (a9e (dZ bw_ eM P_ eU! rfl))))))) (aG (cL (nT (fD (bD (b7x T) d_ rfl (aF p! no!)))) (aG (cJ (bD (a5p T) d_ rfl (aF p! (aF y! (aF P_ jc_)))))) bT)) bT)))
def c7e(T:h!):Nt P w K mg base 3 "_law_do" mD_ (Uw):=
 cX (σ:=[]) (k:=2) T.P3 iC (λhr=>(aE (aZ (i:=2) iC.nd rfl a4! gA_) (aE (aZ (i:=3) iC.nd rfl a4! (aD (cK (aC eU_ (aC eU_ aK))))) (aG (cL b9_ (aE (aZ (i:=4) iC.nd rfl b! (c5l (kI bw_ eM bx! bv_ rfl) (vO (aD (fJ aJ! cB a2! aT t_))))) (aE (dG x! bv_ au_ iZ!) (aE (dG x! bv_ au_ (tU (aF au! (aF au! (aF au! je!))))) (aG (cJ (bD (a5p T) d_ rfl (aF p! (aF au_ (aF (aD (d1m (fH aR!) a2! aT)) je_))))))))) (aG (cL b9_ (aG (cJ (bD (a5o T) d_ rfl (aF p! gB!)))) (aG (cL b9_ (aG (cJ (bD (a5o T) d_ rfl (aF p! ub!)))) (aG (cL np_ (aG (dG x! uc! bx! bx!)) (aG (cL np_ (aE ud_ (aE (aZ (i:=6) iC.nd rfl b! au!) (aE (eO IH rfl (tH (gR rfl T.R0 (bU cD eG rfl T.Q7 dO (aC am_ aK)))) (bF (i:=7) iC.nd rfl b!) (dB 7) (aG (cL (fE (bI aJ! cB (aM aH aL (aM aH aL am_ dQ_ q_) aB q_) a2! t_)) (aG (aZ (i:=6) iC.nd rfl b! (aD (aW aN bE dQ_ aB)))) bT))) (aE (oX (i:=8) (NL:=[bc_]) (NF:=[eH_,mC!]) (ix:=[2,3]) iC.nd rfl b! rfl d! v_ nq_ (Ee.cons (j:=2) (Ee.cons (j:=3) Ee.nil)) d! rfl (tH (gR rfl T.R0 (bU cD eG rfl T.Q7 dO (aC a2! aK)))) (λ_ _ _ _ _=>bF (i:=0) (show([bc_,eH_,mC!]:List Str).Nodup by decide+kernel) rfl b!) aQ_ jj! (λ_ _ _ _ _=>(aD (cK (aC (aW aN bE ai_ (cK b7!)) (aC (aM aH aL eU_ E! q_) (aC fZ aK))))))) (aG (dG x! bv_ bx! (aD (aW aN bE (aW aN bE (dC am_ dU (dS bw!)) bP_) (dC am_ (dS bw!) dU))))))))) (aG (cL np_ (aE (aZ (i:=9) iC.nd rfl a4! (tV (NL:=[bc_]) (NF:=[eH_]) (ix:=[2]) rfl d! v_ nq_ tB_ d! rfl (tH (gR rfl T.R0 a2!)) (λ_ _ _ _ _=>bF (i:=0) (show([bc_,eH_]:List Str).Nodup by decide+kernel) rfl b!) aQ_ jj! (λ_ _ _ _ _=>(aD (aW aN bE (dC eU_ dU c4!) (cK (aC (aW aN bE (aM aH aL eU_ aB q_) E!) aK))))))) (aE ud_ (aG (dG x! bv_ bx! (tV (NL:=["_law_row"]) (NF:=[mC_]) (ix:=[9]) rfl d! v_ nq_ (Ee.cons (j:=9) Ee.nil) d! rfl (tH (fB am_)) (λ_ _ _ _ _=>bF (i:=0) (show(["_law_row",mC_]:List Str).Nodup by decide+kernel) rfl b!) aQ_ jj! (λ_ _ _ _ _=>(c7s (aF gt_ (aF gt_ (aF (a1u gt_ (vO (kI (qS x!) eM gt_ y! rfl))) aP)))))))))) bT)))))))))))))))
def b4c(T:h!):Ok P w K mg base 3 "_law_moves" mH_ (Nm):=
 dW (σ:=[]) (k:=2) T.P7 gB (λhr=>(aR (kR (i:=2) gB.nd rfl b! aK) (aR (a3s IH rfl (gR rfl T.R0 ns_) gB.nd rfl b! (aR (eC (i:=4) gB.nd rfl b! (aM aH aL af! aK! q_)) (aR (gA (tJ (rR (bI b1q b1s (aW eW eX nt! aB) aB t_) (mX (bI a1c c5h (aM aH aL jk! aB q_) i5_ rfl)))) (aR (eC (i:=5) gB.nd rfl b! (aO (zA T) d_ rfl c6_ at!)) (aR (eC (i:=6) gB.nd rfl b! (aO dQ! d_ rfl (aC tF! (aC nt! aK)) af_)) (aU (eC (i:=4) gB.nd rfl b! (aW aN bE (dC aR! dU c4!) (cK (aC (cK (aC aT (aC bw! (aC (aO dQ! d_ rfl (aC am_ (aC nt! aK)) af_) (aC cZ aK))))) aK))))))) dM) (aU (jS (i:=2) d! aR!))))) (wO (aU (bN ai_))))))
def sD(T:h!):Nt P w K mg base 1 "_law_ordered" aF! (Fo):=
 cX (σ:=[]) (k:=0) T.O7 gJ (λhr=>(aE (a9f (kR (i:=1) gJ.nd rfl b! aK)) (aE (eO IH rfl (tH i1_) (bF (i:=2) gJ.nd rfl b!) (dB 2) (aE (aZ (i:=3) gJ.nd rfl b! (aD (b2m ns_))) (aE (iJ IH (fE (tJ (rR (bI b1q b1s aK! aB t_) (mX (bI (c7a (Ak.units0 hr)) c7i (cK (aC uv_ (aC uv_ aK))) (cK (aC a2! (aC a2! aK))) t_))))) (aG (aZ (i:=3) gJ.nd rfl b! (aD uu_)))) (aG (a9f (b4z (i:=1) d! aK! ai_)))))) (oW dT!))))
def yZ(T:h!):∀n:Nat,Nt P w K mg base (1+n+1) "_law_pages" gb! (Hc n)
 |0=>cX (σ:=[]) (k:=1) T.P6 jK (λhr=>b4i)
 |n+1=>have ih:=yZ T n
 cX (σ:=[]) (k:=1+n+1) (q:=Rl (Hc n)) T.P6 jK (λhr=>(aE (aZ (i:=3) jK.nd rfl b! (aD (mD (aC (cK (aC ai_ c6_)) aK)))) (aE (eO IH rfl (fW (bD (a1j T) (hr.mono a!) rfl dT_)) (bF (i:=4) jK.nd rfl b!) (dB 4) (aG (aZ (i:=3) jK.nd rfl b! (zG aN mP au_ (bD (g:=Hc n) (ps:=gb!) ih hr rfl (aF p! (aF aS! (aF (aD (aW aN bE ai_ aB)) aP)))))))) (aG (bX au_)))))
def a8z(T:h!):Nt P w K mg base 2 "_law_undone" aF! (Lp):=
 cX (σ:=[]) (k:=1) T.O8 nL (λhr=>(aE (aZ (i:=1) nL.nd rfl b! fA) (aE (eO IH rfl uE! (bF (i:=2) nL.nd rfl b!) (dB 2) (aG (cL (dZ bw_ eM jl_ eU! rfl) (aG (dG x! y! jl_ (aD (fJ aJ! cB i3! aT t_)))) bT))) dT!)))
def b7w(T:h!):Nt P w K mg base 4 "_law_play" aF! (Pi):=
 cX (σ:=[]) (k:=3) T.P4 oI (λhr=>(aE (aZ (i:=1) oI.nd rfl b! (pE x! (gY bf! iZ! (gY bf! fA (gY bf! fA vK))))) (aE (aZ (i:=2) oI.nd rfl b! (bD (a8z T) d_ rfl db_)) (aE (eO IH rfl uE! (bF (i:=3) oI.nd rfl b!) eY_ (aG (cL (xN (nS (dZ (qS x!) eM (aD (aM aH aL jb! aB q_)) eU! rfl) (kE (nT (fD (vP x! P_ (aD (cK (aC jb! (aC jb! aK)))) gy! c5_)))))) (aG (cJ (bD (c7e T) d_ rfl nx!))) bT))) dT!))))
def b4a(T:h!):Ok P w K mg base 1 "_law_whole" [b3_] (Ji):=
 dW (σ:=[]) (k:=0) T.O0 b3j (λhr=>(aU (bN (iO sX_ (fY sY!)))))
def b3z(T:h!):Ok P w K mg base 4 "_law_world" mA_ (Li):=
 dW (σ:=[]) (k:=3) T.O6 fK (λhr=>(aR (kR (i:=3) fK.nd rfl b! aK) (aR (kR (i:=4) fK.nd rfl b! uL_) (aR (kR (i:=5) fK.nd rfl b! uL_) (aR (a3s IH rfl (gR rfl T.R0 ai_) fK.nd rfl b! (aR (eC (i:=7) fK.nd rfl b! (aO gv_ d_ rfl (aC E! (aC uM! aK)) af_)) (aR (eC (i:=8) fK.nd rfl b! (aW eW eX dQ_ aB)) (aR (c0a (i:=4) d! bP_ (aW aN bE uN! aB)) (aR (c0a (i:=5) d! bP_ (aW aN bE (aW aN bE uO! aB) (aW eW eX (aW mM mO dQ_ aB) aB))) (aR (eC (i:=9) fK.nd rfl b! (b2m (aO (b7y T) d_ rfl (aC E! (aC (aW aN bE uM! aB) (aC aK! ny!))) (aI (aI af_))))) (aU (jS (i:=3) d! (cK (aC (aM aH aL tv_ bP_ q_) (aC uN! (aC uO! (aC cv_ aK))))))))))))) (wO (aU (bN aK!))))))))
def iI(T:h!):Es P w K mg base 1 t.B4 "has" W! (Cj t):=
 cU (σ:=[]) (k:=0) T.U1 T.G7 uQ (λhr=>(aG (bX (kI bw_ eM y! eZ_ rfl))))
def dR(T:h!):Es P w K mg base 1 t.B4 "has_item" W! (Cs t):=
 cU (σ:=[]) (k:=0) T.U1 T.G8 mY (λhr=>(aG (bX (kI bw_ eM y! jq! rfl))))
def lL(T:h!):Es P w K mg base 1 t.B4 "is_within" f5! (Fd t):=
 cU (σ:=[]) (k:=0) T.U1 T.G9 gH (λhr=>(aE (iJ IH (fE (tJ (rR (bI mL mR af! cZ t_) (mX tY!)))) (aG (aZ (i:=1) gH.nd rfl b! uS_))) (aG (bX uT_))))
def nA(T:h!):Es P w K mg base 2 t.B4 "can_move" f5_ (Fn t):=
 cU (σ:=[]) (k:=1) T.U1 T.J0 mZ (λhr=>(aG (bX (a1u nJ_ (a1u uV_ (vO (c7t (cE (lL T) d_ p! no!))))))))
def xL(T:h!):Es P w K mg base 1 t.B5 "listed" bl_ (Jq t):=
 cU (σ:=[]) (k:=0) T.U2 T.F9 gF (λhr=>(aE (a9f (kR (i:=1) gF.nd rfl b! aK)) (aE (aZ (i:=2) gF.nd rfl b! (cF ac! bL dc! cu_ q_)) (aE (iJ IH (fE (bI mL mR ai_ cZ t_)) (aE (a9f (jS (i:=1) d! ai_)) (aG (aZ (i:=2) gF.nd rfl b! (cF ac! bL dc! P_ q_))))) (oW dT!)))))
def kC(T:h!):Es P w K mg base 2 t.B4 "children_of" W! (Dm t):=
 cU (σ:=[]) (k:=1) T.U1 T.J8 kA (λhr=>(aG (bX (b8o (xL T) d_ (cF ac! bL eZ_ y! q_)))))
def oV(T:h!):Es P w K mg base 1 t.B5 "holds" W! (Hb t):=
 cU (σ:=[]) (k:=0) T.U2 T.E9 a0t (λhr=>(aG (bX (a1u uT_ (vO (kI bw_ eM y! dc! rfl))))))
def vF(T:h!):Es P w K mg base 2 t.B4 "cut" ms! (Iw t):=
 cU (σ:=[]) (k:=1) T.U1 T.J6 iB (λhr=>(aE (cL (nT (fD nJ_)) (aG a1r) bT) (aG (eO IH rfl (tH (b5a rfl T.R0 a2! (aW aN bE a2! aK!))) (bF (i:=4) iB.nd rfl b!) (dB 4) (aE (aZ (i:=5) iB.nd rfl b! (aD (aW aN bE (dC ai_ dU c4!) (cK (aC aR! aK))))) (aG (cL (fD (cE (oV T) d_ (cF ac! bL jq! y! q_) nK_)) (aG (dG x! (bG T.U1 T.V5 p!) js_ gy!)) bT)))))))
def mQ(T:h!):Vk P w K mg base 1 "Row" t.B5 bl_ (Ha t):=
 a1k (σ:=[]) (k:=0) T.E8 b3i (λhr=>(aE (fV T.U2 T.U8 p! u4_) (aG (fV T.U2 T.U9 p! u4_))))
def xM(T:h!):Vk P w K mg base 3 "Outline" t.B4 bl_ (Ho t):=
 a1k (σ:=[]) (k:=2) T.G6 xF (λhr=>(aE (fV T.U1 T.V0 p! (pE x! (gY bf! cu_ (gY bf! cu_ vK)))) (aE (fV T.U1 T.V1 p! (pE x! (gY bf! jt_ (gY bf! jt_ vK)))) (aE (fV T.U1 T.V2 p! fA) (aE (fV T.U1 T.V3 p! fA) (aE (fV T.U1 T.V4 p! fA) (aG (fV T.U1 T.V5 p! fA))))))))
def fU(T:h!):Es P w K mg base 2 t.B5 "put_behind" mp_ (Cr t):=
 cU (σ:=[]) (k:=1) T.U2 T.F7 fN (λhr=>(aE (aZ (i:=3) fN.nd rfl b! (c5m (fD (cE (oV T) d_ p! js!)) P_ cu_)) (aE (aZ (i:=4) fN.nd rfl b! (cF ac! bL dc! au_ q_)) (aE (dG x! dc! au_ y!) (aE (dG x! ju! y! au_) (aE (dG x! dc! y! aS!) (aG (dG x! ju! aS! y!))))))))
def tG(T:h!):Es P w K mg base 1 t.B5 "take_out" W! (Ia t):=
 cU (σ:=[]) (k:=0) T.U2 T.F8 gU (λhr=>(aE (aZ (i:=2) gU.nd rfl b! (b8n x! ju! y! c5_)) (aE (aZ (i:=3) gU.nd rfl b! (b8n x! dc! y! c5_)) (aE (dG x! dc! P_ au_) (aG (dG x! ju! au_ P_))))))
def kX(T:h!):Es P w K mg base 3 t.B4 "move" cX! (Fz t):=
 cU (σ:=[]) (k:=2) T.U1 T.J4 sZ (λhr=>(aE (cL (nT (fD (cE (nA T) d_ p! (aF y! js!)))) (aG a1r) bT) (aE (cJ (cE (tG T) d_ (cF ac! bL eZ_ uS_ q_) c8!)) (aE (cJ (cE (fU T) d_ (cF ac! bL eZ_ P_ q_) nx!)) (aG (dG x! nJ! y! P_))))))
def vE(T:h!):Es P w K mg base 3 t.B4 "put" cX! (Iv t):=
 cU (σ:=[]) (k:=2) T.U1 T.H9 lC (λhr=>(aE (aZ (i:=4) lC.nd rfl b! (c5m (fD uV_) P_ bf!)) (aE (dG x! nJ! y! aS!) (aE (cJ (cE (fU T) d_ (cF ac! bL eZ_ aS! q_) nx!)) (aE (dG x! eZ_ y! jt_) (aE (dG x! jq! y! jt_) (aG (dG x! ve! y! (c3c je! (aD (gS T.S8 rfl)))))))))))
def kZ(T:h!):Es P w K mg base 2 t.B4 "set_number" f6_ (Ex t):=
 cU (σ:=[]) (k:=1) T.U1 T.J7 kY (λhr=>(aG (cL (fD nJ_) (aG (dG x! (cF ac! bL ve! y! q_) P_ au_)) bT)))
def qZ(T:h!):Es P w K mg base 3 t.B4 "write" mr_ (Hh t):=
 cU (σ:=[]) (k:=2) T.U1 T.J5 dI (λhr=>(aE (cL (nT (fD (cE (dR T) d_ p! js!))) (aG a1r) bT) (aE (aZ (i:=5) dI.nd rfl b! au_) (aG (eO IH rfl (tH (c0g rfl T.Q4 aR!)) (b7a rfl (oP (bF (i:=6) dI.nd rfl b!) (oP (bF (i:=7) dI.nd rfl b!) b1i))) (b9o 6 7) (aE (aZ (i:=8) dI.nd rfl b! (aD (aW aN bE af! (cK ng_)))) (aE (cJ (cE (fU T) d_ (cF ac! bL jq! P_ q_) (aF jv_ nK_))) (aE (dG x! (bG T.U1 T.V4 p!) jv_ (aD dQ_)) (aG (aZ (i:=5) dI.nd rfl b! jv_))))))))))
def yY(T:h!):Nt P w K mg base 1 "accept" as_ (Lh t):=
 cX (σ:=[]) (k:=0) T.N0 b3h (λhr=>(aE (cJ (a1t (zF x! eQ_ gA_ (tU aP) c5_) y!)) th_))
def nR(T:h!):Nt P w K mg base 2 "is_next" as_ (Gn t):=
 cX (σ:=[]) (k:=1) T.L8 a8f (λhr=>(aG (bX (kI aJ! jx! gA_ (zG aN mP vl! au!) t_))))
def oU(T:h!):Nt P w K mg base 3 "accept_waiting" br! (Ec t):=
 cX (σ:=[]) (k:=2) T.N3 dP (λhr=>(aE (aZ (i:=1) dP.nd rfl b! au!) (aE vo_ (aE (iJ IH (fE (bI b1q b1s (bU cD eG rfl T.Q7 dO eT!) aB t_)) (aE lM (aE (cJ (bD (yY T) d_ rfl (aF p! je_))) (aE (b8i (i:=1) dP.nd rfl b! au!) (aG vo_))))) dT!))))
def qW(T:h!):Ok P w K mg base 1 "time_and_hand" bM! (Dc):=
 dW (σ:=[]) (k:=0) T.E6 qK (λhr=>(aU (bN tv!)))
def lK(T:h!):Ok P w K mg base 4 "in_order" aZ! (De):=
 dW (σ:=[]) (k:=3) T.E7 a4q (λhr=>(aU (bN (c0h (qW T) (Ak.in1 (Ak.in1 d_)) rfl rfl T.R6 E!))))
def a1i(T:h!):Nt P w K mg base 5 "all_taken" br! (Ew t):=
 cX (σ:=[]) (k:=4) T.L5 jZ (λhr=>(aE (a9f (kR (i:=1) jZ.nd rfl b! aK)) (aE (eO IH rfl (b8m eQ_) (bF (i:=2) jZ.nd rfl b!) (dB 2) (aG (b4j (i:=1) d! (cF ac! bL eQ_ P_ q_)))) (oW (aG (bX (aD (aO (lK T) d_ rfl c6_ at!))))))))
def a1h(T:h!):Ok P w K mg base 6 "are_parts" f2_ (Gz t):=
 dW (σ:=[]) (k:=5) T.E3 a0s (λhr=>(aR (gA (bI yU yW gn! ns_ t_) eM_ dM) (aU (bN (bU gp_ wW rfl T.Q0 wY (aC (iX (NL:=vr_) (NF:=[]) (ix:=[]) rfl d! v_ (cI (sc:=Ae Jm) rfl v_) Ee.nil d! rfl (c8s rfl T.R9 c9g af! E!) (λ_ _ _ _ _=>b7a rfl (oP (bF (i:=0) vs! rfl b!) (oP (bF (i:=1) vs! rfl b!) b1i))) (c3x 0 1) dO! (λ_ _ _ _ _=>(c0j (j:=0) (n:=1) (c3z T) d_ c6_ at!))) aK))))))
def a8y(T:h!):Ok P w K mg base 7 "is_deed" o! (Hr t):=
 dW (σ:=[]) (k:=6) T.E4 a8i (λhr=>(aR (gA (tJ (zU (fX (fH m0_)) (rQ (bI aJ! cB gn! aB t_)))) eM_ dM) (aR (gA (tJ (zU (fX (fH (gE a3d rfl T.Q6 rfl T.R7 bP b0f a1!))) (rQ (b4y vt! rfl a1!)))) eM_ dM) (aR (gA (fX (fH (aO (a1h T) d_ rfl (aC (dC E! c4! dU) (aC (c4n vt! rfl a1! q_) aK)) af_))) eM_ dM) (aU (bN (zV (fJ yU yW a1! aT t_) (fY (fJ lG lH (aW aN bE na_ a1!) m2_ t_)))))))))
def tE(T:h!):Ok P w K mg base 8 "is_operation" o! (Ca t):=
 dW (σ:=[]) (k:=7) T.E5 sY (λhr=>(aR m1! (aU (bN (iO s3! (iO s2_ (fY (aO (a8y T) d_ rfl iV! at!))))))))
def oS(T:h!):Nt P w K mg base 2 "was_taken" as_ (Fp t):=
 cX (σ:=[]) (k:=1) T.L7 a0p (λhr=>(aG (bX (kI lG (Ie.m lH) gA_ vl! t_))))
def qX(T:h!):Nt P w K mg base 3 "not_yet_taken" bN! (Dd t):=
 cX (σ:=[]) (k:=2) T.M6 dH (λhr=>(aE (aZ (i:=2) dH.nd rfl b! fA) (aE (eO IH rfl (fW (zG aN mP gG! y!)) (bF (i:=3) dH.nd rfl b!) eY_ (aE (aZ (i:=4) dH.nd rfl b! nS_) (aE (cL (fD (bD (oS T) d_ rfl (aF p! jc_))) (aG (aZ (i:=5) dH.nd rfl b! (cF ac! bL (cF ac! bL eQ_ (aD jk!) q_) (aD (aW qR rA jk! aB)) q_))) (aG (cL (dZ aJ! jx! (aD jk!) (bG T.U0 T.V6 p!) t_) jB! (aG (aZ (i:=5) dH.nd rfl b! (zF x! P_ aS! au_ c5_)))))) (aG (cL (fE (bI eT_ vG am_ aK! t_)) jB! bT))))) jC_)))
def a1e(T:h!):Nt P w K mg base 2 "last_time" f8_ (Gy t):=
 cX (σ:=[]) (k:=1) T.L9 a0q (λhr=>(aE (cL (dZ aJ! jx! (cE (kD T) d_ p! c8!) au! t_) (aG (bX au!)) bT) (aG (bX (cF ac! bL (cF ac! bL (cF ac! bL eQ_ y! q_) (aD (c8x aB)) q_) au! q_)))))
def vD(T:h!):Nt P w K mg base 3 "check_times" mt_ (Gr t):=
 cX (σ:=[]) (k:=2) T.M7 fM (λhr=>(aE (aZ (i:=2) fM.nd rfl b! fA) (aG (eO IH rfl (fW (jN (yE rfl) c0p rfl T.R6 a0a c8!)) (bF (i:=3) fM.nd rfl b!) eY_ (aE (aZ (i:=4) fM.nd rfl b! (cF ac! bL (cF ac! bL y! au_ q_) au! q_)) (aE (cL (dZ lG (Ie.m lH) aS! (vP x! P_ gz! (bD (a1e T) d_ rfl (aF p! (aF gz! aP))) c5_) t_) jB! bT) (aG (dG x! P_ gz! aS!))))))))
def qY(T:h!):Nt P w K mg base 9 "check_message" bN! (Fh t):=
 cX (σ:=[]) (k:=8) T.M9 qL (λhr=>(aE (cL (fE (fX (fH (bU gp_ wW rfl T.Q0 wY (aC (iX (NL:=o!) (NF:=[]) (ix:=[]) rfl d! v_ (cI (sc:=Ae Gk) rfl v_) Ee.nil d! rfl (fB af!) (λ_ _ _ _ _=>bF (i:=0) (show(o!:List Str).Nodup by decide+kernel) rfl b!) aQ_ dO! (λ_ _ _ _ _=>(aO (tE T) d_ rfl b7! at!))) aK))))) jB! bT) (aG (cJ (bD (vD T) d_ rfl (aF p! (aF (bD (qX T) d_ rfl dT_) aP)))))))
def iF(T:h!):Ok P w K mg base 1 "is_undo_or_redo" bM! (Ax):=
 dW (σ:=[]) (k:=0) T.J9 nK (λhr=>(aU (bN (zV vC! (fY vC!)))))
def xJ(T:h!):Nt P w K mg base 5 "last_words" aZ! (Fy):=
 cX (σ:=[]) (k:=4) T.K0 iZ (λhr=>(aE (aZ (i:=1) iZ.nd rfl b! fA) (aE (eO IH rfl vD_ (bF (i:=2) iZ.nd rfl b!) (dB 2) (aG (cL (fE (fH (aO (iF T) d_ rfl eT! at!))) (aG (dG x! y! jl_ jl_)) bT))) dT!)))
def b3x(T:h!):Nt P w K mg base 6 "undone" aZ! (Lg):=
 cX (σ:=[]) (k:=5) T.K4 jH (λhr=>(aE (aZ (i:=1) jH.nd rfl b! (bD (xJ T) d_ rfl db_)) (aE (aZ (i:=2) jH.nd rfl b! fA) (aE (eO IH rfl (tH i1_) (bF (i:=3) jH.nd rfl b!) eY_ (aE (aZ (i:=4) jH.nd rfl b! nS_) (aG (cL (xN (nS (fE (fX (fH (aO (iF T) d_ rfl nc! at!)))) (kE (dZ aJ! jx! (b8p x! y! aS! c5_) bf! t_)))) (aG (dG x! P_ aS! gy!)) bT)))) jC_))))
def c2w(T:h!):Nt P w K mg base 4 "play" f7! (Mt t):=
 cX (σ:=[]) (k:=3) T.K6 c1v (λhr=>(aG (cL b9_ (aG (cJ (cE (vE T) d_ p! (aF y! (aF bx! je_))))) (aG (cL b9_ (aG (cJ (cE (kX T) d_ p! gB!))) (aG (cL b9_ (aG (cJ (cE (kX T) d_ p! ub!))) (aG (cL b9_ (aG (cJ (cE (qZ T) d_ p! (aF y! gB!)))) (aG (cL b9_ (aG (cJ (cE (vF T) d_ p! gB!))) (aG (cL b9_ (aG (cJ (cE (kZ T) d_ p! gB!))) bT)))))))))))))
def b3y(T:h!):Nt P w K mg base 7 "played" aZ! (Hy t):=
 cX (σ:=[]) (k:=6) T.K7 jI (λhr=>(aE (aZ (i:=1) jI.nd rfl b! (lP (xM T) d_ rfl)) (aE (aZ (i:=2) jI.nd rfl b! (bD (b3x T) d_ rfl db_)) (aE (eO IH rfl vD_ (bF (i:=3) jI.nd rfl b!) eY_ (aE (aZ (i:=4) jI.nd rfl b! nS_) (aG (cL (dZ (qS x!) eM aS! P_ rfl) (aG (cJ (bD (c2w T) d_ rfl (aF y! (aF aS! (aF gz! aP)))))) bT)))) dT!))))
def xI(T:h!):Nt P w K mg base 8 "outline_of" br! (Em t):=
 cX (σ:=[]) (k:=7) T.L6 xD (λhr=>(aE (cL (dZ a8s (Ie.m a9b) vN_ cu_ t_) (aG (fV T.U0 T.V9 p! (bD (b3y T) d_ rfl (aF (bD (a1i T) d_ rfl db_) aP)))) bT) (aG (bX vN_))))
def qV(T:h!):AB P w K mg base 9 "outline_with" mu_ (Dr t):=
 b8a (σ:=[]) (k:=8) (q:=Ka t) T.N6 kU (λhr hX=>(a1q (d2j (aZ (i:=2) kU.nd rfl b! (bD (xI T) d_ rfl db_))) (a1q (d0v (nT (fD (cE (iI T) d_ P_ c8!))) (oN (b8f hX T.U5 hr.hd rfl T.U4 (c3f (i:=1) hr rfl b! d!))) (c7k bT)) (c7k jC_))))
def yX(T:h!):AB P w K mg base 10 "pages" iy! (Lf t):=
 b8a (σ:=[]) (k:=9) (q:=Sy t) T.N7 jJ (λhr hX=>(a1q (c7j (i:=2) jJ.nd rfl b! (b1u hX (qV T) d_ rfl dT_)) (c7k (aE (a9f (kR (i:=3) jJ.nd rfl b! aK)) (aE (aZ (i:=4) jJ.nd rfl b! (tU (aF (aD (cK (aC aB c6_))) aP))) (aE (iJ IH (dZ b1q (Ie.m b1s) (jN cD b0c rfl T.Q7 dO (aF aS! aP)) au! t_) (aE (aZ (i:=5) jJ.nd rfl b! (c3d aS!)) (aE (a9f (jS (i:=3) d! am_)) (aG (eO IH rfl (c7r rfl T.R4 (cE (kC T) d_ P_ (aF (aD vQ!) aP))) (bF (i:=6) jJ.nd rfl b!) (dB 6) (aG (cJ (a1t aS! (aD (cK (aC (aW aN bE vQ! aB) ng_))))))))))) (oW (aG (bX au_)))))))))
def b7u(T:h!):Nt P w K mg base 10 "pages" iy! (Ph t):=(yX T).m
def a8u(T:h!):Nt P w K mg base 4 "receive" as_ (Jg t):=
 cX (σ:=[]) (k:=3) T.N4 uO (λhr=>(aE (cL (fD (bD (nR T) d_ rfl dT_)) (aE (cJ (bD (yY T) d_ rfl dT_)) (aG (bX (zG aN mP au! (bD (oU T) d_ rfl db_))))) bT) (aE (aZ (i:=2) uO.nd rfl b! (c5l (bD (oS T) d_ rfl dT_) (vO (kI bw_ eM y! gG! rfl)))) (aE (cL (xN (nS (fE (fX (fH ai_))) (kE (dZ b1p (Ie.m b1r) (jN cD b0c rfl T.Q7 dO (aF gG! aP)) (aD (gS T.T0 rfl)) t_)))) (aG (cJ (a1t gG! y!))) bT) (aG (bX au!))))))
def c2v(T:h!):Nt P w K mg base 10 "take" bN! (Se t):=
 cX (σ:=[]) (k:=9) T.N5 tM (λhr=>(aE (cJ (bD (qY T) d_ rfl dT_)) (aE (aZ (i:=2) tM.nd rfl b! au!) (aE (eO IH rfl (tH (fB af!)) (bF (i:=3) tM.nd rfl b!) eY_ (aG (b8i (i:=2) tM.nd rfl b! (bD (a8u T) d_ rfl (aF p! jc_))))) jC_))))
end
def Yg(K:z1!):Sp:=λvs H Q E=>∀(P:z3!) (w:yt!) (t:Ay),t.nd->Wv P w K 1 (Yo t) vs H Q E
section
variable{P:z3!}{w:yt!}{K:z1!}{mg:Str->Option Value}{h:Heap}
def c9l(gi:mg "law"=some eZ!)(dl:Zs K mg "law" Oc [bc!])(T:Txt P w K mg jN_)(nd:Ay.nd jN_):
  ∃fd:FuncData,(∀(s:z2!) (u:ys!),BindsTo s fd jq_ [("_law_script",u)])/\∀base:Heap,K.In base->base.Ns mainGlobals mg->Fe P w K mg base Pf 23 fa fd [bc!] (Yg K):=by
 obtain⟨fd,B,J⟩:=c3j (σ:=[]) (k:=22) (P:=P) (w:=w) (q:=Yk jN_) dl iY gi (λbase ae af A outer s H E hr=>(aE (aZ (i:=1) iY.nd rfl b! (aD (aO (b4c T) d_ rfl (aC E! (aC (aO (b3z T) d_ rfl (aC E! (aC aB (aC (aW eW eX (aO gv_ d_ rfl (aC E! ny!) af_) aB) aK))) (aI af_)) aK)) af_)))
   (aE (aZ (i:=2) iY.nd rfl b! (c3e (a9a T) d_ rfl je!))
   (aE (cJ (bD (c2v T) d_ rfl no!))
   (aE (aZ (i:=3) iY.nd rfl b! (bD (b7w T) d_ rfl c8!))
   (aE (aZ (i:=4) iY.nd rfl a4! iZ!)
   (aE (eO IH rfl (fW (zG aN mP eU! (b4l (yF rfl) c0q rfl T.Q8 b2r (aF n0! aP)))) (bF (i:=5) iY.nd rfl b!) (dB 5) (aE (aZ (i:=8) iY.nd rfl b! (bD (b7u T) d_ rfl (aF P_ nK_)))
   (aE (cL (xN (b8g (fE (fX (fH (gE b9i rfl T.Q6 rfl T.Q8 bP b2r bP_)))) (a9e (dZ eT_ b7t jv_ (bD (g:=Hc 20) (ps:=gb!) (yZ T 20) d_ rfl (aF au_ (aF js_ je!))) t_)))) gy_ bT)
   (aE (cL (fE (fX (fH (bU gp_ wW rfl T.Q0 wY (aC (iX (NL:=c6!) (NF:=[]) (ix:=[]) rfl d! v_ n1! Ee.nil d! rfl (fB bP_) i2! aQ_ dO! (λ_ _ _ _ _=>(iO m0_ (fY (aO (b4a T) d_ rfl iV! at!))))) aK))))) gy_ bT)
   (aG (cL (dZ bw_ eM js_ eU! rfl) (aG (aZ (i:=4) iY.nd rfl a4! (aD (aW aN bE aR! (iX (NL:=c6!) (NF:=[]) (ix:=[]) rfl d! v_ n1! Ee.nil d! rfl (fB bP_) i2! aQ_ dO! (λ_ _ _ _ _=>a1!)))))) bT))))))
   (aE (cL (xN (b8g (dZ eT_ b7t (aD nl_) (zG aN mP (jN a3z c4t rfl T.Q7 dO (aF n0! aP)) au!) t_) (a9e (nT (fD (jN gp_ (Ow.toM wW) rfl T.Q0 wY (aF (tV (NL:=[aH_]) (NF:=[mH!]) (ix:=[4]) rfl d! v_ n1! (Ee.cons (j:=4) Ee.nil) d! rfl (b8m n0!) (λ_ _ _ _ _=>bF (i:=0) (show([aH_,mH!]:List Str).Nodup by decide+kernel) rfl b!) aQ_ jj! (λ_ _ _ _ _=>(kI bw_ eM p! y! rfl))) aP))))))) gy_ bT)
   (aE (aZ (i:=6) iY.nd rfl b! gy!)
   (aE (c7n (ie:=7) (ix:=6) (L:=_) ⟨rfl,rfl,λ_=>hr.hd,iY.nd,rfl,rfl,R!,rfl,rfl,rfl,T.U3,T.U6⟩ (c2l rfl rfl rfl T.Q6 bP rfl T.U4) (hvw T.U7) (λpn f M0 G0 F0 E hX=>oN (c3a (b1u hX (yX T) d_ rfl (aF P_ (aF eU! aP))))))
   (aG (bX (aD bw!)))))))))))))
 exact⟨fd,B,λbase i g=>(J base i g).imp λvs H Q E z=>z P w _ nd⟩
def b4u{ad:xK!}{k3:Tok}{o0 o1 o2 o3 o4 o5 o6 o7:aJ_}{n0 n1 n2 n3 n4 n5 n6 n7 ep:Nat}{s0 s1 s2 s3 s4 s5 s6 s7:bP!}(X:ec!)(G:fl!)
  (ga:W.nsIn K mainGlobals "PARTS"=some (some kh!))(gl:K.lookup ad=some {cls:=.type "dict",data:=.dict #[⟨PyData.keyHash w.params "put",.str "put" k0,.ref r0⟩,⟨PyData.keyHash w.params "move",.str "move" k1,.ref r1⟩,⟨PyData.keyHash w.params "drop",.str "drop" k2,.ref r2⟩,⟨PyData.keyHash w.params "write",.str "write" k3,.ref r3⟩,⟨PyData.keyHash w.params "cut",.str "cut" k4,.ref r4⟩,⟨PyData.keyHash w.params "set",.str "set" k5,.ref r5⟩,⟨PyData.keyHash w.params "undo",.str "undo" k6,.ref r6⟩,⟨PyData.keyHash w.params "redo",.str "redo" k7,.ref r7⟩] ep})(gs:oN!=false)
  (l0:K.lookup r0=some ⟨cH_,o0,.seq #[.ref B6,.ref B7] n0,s0⟩)
  (l1:K.lookup r1=some ⟨cH_,o1,.seq #[.ref B6,.ref B6,.ref B7] n1,s1⟩)
  (l2:K.lookup r2=some ⟨cH_,o2,.seq #[.ref B6] n2,s2⟩)
  (l3:K.lookup r3=some ⟨cH_,o3,.seq #[.ref B6,.ref B8,.ref B9] n3,s3⟩)
  (l4:K.lookup r4=some ⟨cH_,o4,.seq #[.ref B6,.ref C2,.ref C3] n4,s4⟩)
  (l5:K.lookup r5=some ⟨cH_,o5,.seq #[.ref B6,.ref C4,.ref C5] n5,s5⟩)
  (l6:K.lookup r6=some ⟨cH_,o6,.seq #[.ref C6] n6,s6⟩)
  (l7:K.lookup r7=some ⟨cH_,o7,.seq #[.ref C6] n7,s7⟩)
  :∀X:Cx,X.prog=P->X.w=w->X.K=K->X.mg=mg->Ts X "PARTS" (Hq jN_):=λgw e1 e2 e3 e4=>
 b9p (rows:=[("put",k0,r0),("move",k1,r1),("drop",k2,r2),("write",k3,r3),("cut",k4,r4),("set",k5,r5),("undo",k6,r6),("redo",k7,r7)]) (w:=w) e2 e3 e4 (eB X G ga) gs gl (show(["put","move","drop","write","cut","set","undo","redo"]:List Str).Nodup by decide+kernel) ⟨rfl,gK (fs:=[B6,B7]) l0 (by show 2<=1000;decide),rfl,gK (fs:=[B6,B6,B7]) l1 jV!,rfl,gK (fs:=[B6]) l2 n8_,rfl,gK (fs:=[B6,B8,B9]) l3 jV!,rfl,gK (fs:=[B6,C2,C3]) l4 jV!,rfl,gK (fs:=[B6,C4,C5]) l5 jV!,rfl,gK (fs:=[C6]) l6 n8_,rfl,gK (fs:=[C6]) l7 n8_,trivial⟩
end
end K25
open PySem PySem.W PyProof.Rows
set_option maxRecDepth 100000 in
set_option maxHeartbeats 0 in
theorem PySem.Challenge.cw_manyhands_k25_whole_no_rings_holds : PySem.Challenge.rw_manyhands_k25_whole_no_rings.Holds := by
 w_on;o_law;k_head;(case hw=>w_witness2)
 k_fill
 refine L2.b5k (l:=PySem.Challenge.rw_manyhands_k25_whole_no_rings) (n:=63) (k:=23) (x:="_law_script") (CX:=L2.Pf) (sp:=K25.Yg) rfl (by decide) rfl ⟨rfl,by decide,by decide,rfl⟩ (λw h Y=>W.kIn_of Y) ?F (λK H a ns hl _ hS P w t nd=>DL.c3i hS (K25.b8w nd)) (λ_ _ _ _ z=>z)
 case F=>
  intro w mg fa h KX G hmg;refine' K25.c9l hmg ?dl ⟨?D1,?D2,?D3,?D4,?D5,?D6,?D7,?D8,?D9,?E1,?E2,?E3,?E4,?E5,?E6,?E7,?E8,?E9,?F7,?F8,?F9,?G6,?G7,?G8,?G9,?H9,?J0,?J4,?J5,?J6,?J7,?J8,?J9,?K0,?K4,?K6,?K7,?K8,?K9,?L5,?L6,?L7,?L8,?L9,?M6,?M7,?M9,?N0,?N3,?N4,?N5,?N6,?N7,?N8,?N9,?O0,?O1,?O2,?O3,?O4,?O5,?O6,?O7,?O8,?O9,?P0,?P1,?P3,?P4,?P5,?P6,?P7,?P8,?P9,?Q0,?Q3,?Q4,?Q5,?Q6,?Q7,?Q8,?Q9,?R0,?R4,?R6,?R7,?R8,?R9,?S0,?S7,?S8,?S9,?T0,?T1,?T2,?T3,?T4,?T5,?T6,?T7,?T8,?T9,?U0,?U1,?U2,?U3,?U4,?U5,?U6,?U7,?U8,?U9,?V0,?V1,?V2,?V3,?V4,?V5,?V6,?V7,?V8,?V9,?gp⟩ ?nd
  (case E8=>show"!!")
  (case G6=>show"!!")
  (case K8=>(dsimp only;refine' DL.b8k (DL.eB KX G ?g) ?a ?i ?l ?c ?k ?mm ?kc ?b;(case g=>k_is);(case a=>k_is);(case i=>k_is);(case l=>k_is);(case c=>k_is);(case k=>k_is);(case mm=>k_is);(case kc=>k_is);(case b=>exact λ_ _ _ _ _ _=>DL.qF λ_ _=>rfl)))
  (case D1=>show"!#")
  (case D2=>show"!$")
  (case D3=>show"!#")
  (case D4=>show"!#")
  (case D5=>show"!#")
  (case D6=>show"!#")
  (case D7=>show"!#")
  (case D8=>show"!#")
  (case D9=>show"!#")
  (case E1=>show"!#")
  (case E2=>show"!#")
  (case E3=>show"!$")
  (case E4=>show"!#")
  (case E5=>show"!#")
  (case E6=>show"!#")
  (case E7=>show"!#")
  (case E9=>show"!%")
  (case F7=>show"!&")
  (case F8=>show"!%")
  (case F9=>(dsimp only;refine' DL.eA ?a ?i ?l ?c ?k ?b;(case a=>k_is);(case i=>k_is);(case l=>k_is);(case c=>k_is);(case k=>k_is);(case b=>exact λ_ _ _ _ _ _=>DL.nB λ_=>rfl)))
  (case G7=>show"!%")
  (case G8=>show"!%")
  (case G9=>show"!&")
  (case H9=>show"!'")
  (case J0=>show"!&")
  (case J4=>show"!'")
  (case J5=>(dsimp only;refine' DL.eA ?a ?i ?l ?c ?k ?b;(case a=>k_is);(case i=>k_is);(case l=>k_is);(case c=>k_is);(case k=>k_is);(case b=>exact λ_ _ _ _ _ _=>DL.us5 λ_ _ _ _ _=>rfl)))
  (case J6=>show"!'")
  (case J7=>show"!'")
  (case J8=>show"!%")
  (case J9=>show"!#")
  (case K0=>show"!#")
  (case K4=>show"!#")
  (case K6=>show"!(")
  (case K7=>show"!#")
  (case K9=>show"!%")
  (case L5=>show"!#")
  (case L6=>show"!#")
  (case L7=>show"!$")
  (case L8=>show"!$")
  (case L9=>show"!$")
  (case M6=>show"!$")
  (case M7=>show"!$")
  (case M9=>show"!$")
  (case N0=>show"!$")
  (case N3=>show"!#")
  (case N4=>show"!$")
  (case N5=>show"!$")
  (case N6=>show"!$")
  (case N7=>show"!$")
  (case N8=>show"!$")
  (case N9=>show"!$")
  (case O0=>show"!#")
  (case O1=>show"!#")
  (case O2=>show"!#")
  (case O3=>show"!$")
  (case O4=>show"!$")
  (case O5=>show"!)")
  (case O6=>show"!(")
  (case O7=>show"!#")
  (case O8=>show"!#")
  (case O9=>show"!)")
  (case P0=>show"!(")
  (case P1=>show"!)")
  (case P3=>show"!$")
  (case P4=>show"!#")
  (case P5=>show"!$")
  (case P6=>show"!(")
  (case P7=>show"!$")
  (case P8=>show"!#")
  (case dl=>(refine' DL.c4i KX G ?a ?l ?c ?k ?b;(case a=>k_is);(case l=>k_is);(case c=>k_is);(case k=>k_is);(case b=>exact λ_ _ _ _ _ _=>DL.nB λ_=>rfl)))
  (case P9=>show"!*")
  (case Q0=>show"!*")
  (case Q3=>show"!*")
  (case Q4=>show"!*")
  (case Q5=>show"!*")
  (case Q6=>show"!*")
  (case Q7=>show"!*")
  (case Q8=>show"!*")
  (case Q9=>show"!*")
  (case R0=>show"!*")
  (case R4=>show"!*")
  (case R6=>show"!*")
  (case R7=>show"!*")
  (case R8=>show"!*")
  (case R9=>show"!*")
  (case S0=>show"!+")
  (case S7=>show"!+")
  (case S8=>show"!+")
  (case S9=>show"!+")
  (case T0=>show"!+")
  (case T1=>show"!,")
  (case T2=>show"!,")
  (case T3=>show"!,")
  (case T4=>show"!,")
  (case T5=>show"!,")
  (case T6=>show"!,")
  (case T7=>show"!,")
  (case T8=>show"!,")
  (case T9=>show"!,")
  (case U0=>show"!-")
  (case U1=>show"!-")
  (case U2=>show"!-")
  (case U3=>show"!,")
  (case U4=>show"!,")
  (case U5=>(dsimp only;refine' XS.c8j ?xqa ?xqb ?xqc ?xqd ?xqe ?xqf ?xqg ?xqh;(case xqa=>k_is);(case xqb=>k_is);(case xqc=>k_is);(case xqd=>rfl);(case xqe=>k_is);(case xqf=>k_is);(case xqg=>rfl);(case xqh=>k_is)))
  (case U6=>(dsimp only;refine' XS.c9f ?ta ?tb ?tc;(case ta=>k_is);(case tb=>k_is);(case tc=>k_is)))
  (case U7=>(dsimp only;k_is))
  (case U8=>show"!.")
  (case U9=>show"!.")
  (case V0=>show"!.")
  (case V1=>show"!.")
  (case V2=>show"!.")
  (case V3=>show"!.")
  (case V4=>show"!.")
  (case V5=>show"!.")
  (case V6=>show"!.")
  (case V7=>show"!.")
  (case V8=>show"!.")
  (case V9=>show"!.")
  (case gp=>(refine' K25.b4u KX G ?ga ?gl ?gs ?l0 ?l1 ?l2 ?l3 ?l4 ?l5 ?l6 ?l7;(case ga=>k_is);(case gl=>k_is);(case gs=>decide);(case l0=>k_is);(case l1=>k_is);(case l2=>k_is);(case l3=>k_is);(case l4=>k_is);(case l5=>k_is);(case l6=>k_is);(case l7=>k_is)))
  (case nd=>(unfold K25.Ay.nd;decide))
