import Derived.Test.YtclpbaokadfhhaaGreatDoorShelf
import Derived.Test.YtclpbaokadfhhaaGreatDoorZa
set_option maxRecDepth 100000
set_option maxHeartbeats 2000000
open List renaming length_cons->Qa,length_drop->Qc,length_eq_zero_iff->Qd,eq_nil_of_length_eq_zero->Qe,length_append->Qf,count_eq_zero->Qg,count_append->Qi,append_assoc->Qj,length_take->Qk,length_nil->Qm,isPrefixOf->Qn,append_nil->Qo,mem_cons->Qp
open Go.Lib renaming trimRightB->Qq,byteCells->Qt,cell_of_heap->Qx,BuilderAtF->Qy,strCells->Qz,index->QA,splitB->QB,countB->QC,IsBuilderF->QD,splitK->QE
open Go.IntKind renaming u8->QF,wrap_u8->QG
open Go.Value renaming string->QH,pointer->QI,int->QJ,slice->QL,tuple->QM
open Go.Proofs.Tryz renaming prog->QN,underlying88->QO,ntmps136->QP,func136->QQ,underlying190->QR,underlying9->QT,ntmps135->QU,func135->QV
open UInt8 renaming ofNat_toNat->QW,or_zero->QY,toNat_and->QZ,toNat_or->Q0
open BitVec renaming ofInt_natCast->Q5,ofInt->Q6,toNat_ofNat->Q7
open Nat renaming mod_eq_of_lt->Q8,toUInt8_eq->Q9,le_refl->Ja
open Go.BinOp renaming and->Jb,or->Jc
open Go renaming World->Jd,Calls->Je,convert->Jf
open Array renaming getElem?_eq_some_iff->Jg
open Go.Obj renaming cells->Jh
open Go.Ending renaming returned->Ji
open Go.Oper renaming upon_value->Jj
open ByteArray renaming size_extract->Jk,mk->Jl
namespace Go.Proofs.YtclpbaokadfhhaaGreatDoor
open Go.RowKit Go.Shelf
abbrev Bld(B b:Nat)(l:List UInt8)(w:Jd):Prop:=QD 90 5 B b (Qt l) w
theorem Tryz.sizeBuilder:(QN.info? 90).map (·.size)=some 2:=kr
theorem PQ(l:Qu)(s:Qb):Qt l++Qz s=Qt (l++s.data.toList):=by
 simp[Qt,Qz]
theorem NZ(b:Nat)(w:Jd)(h0:w.cell? ⟨b,0,none⟩=some (QI (some ⟨b,0,none⟩))):
  Je QN 135 #[QI (some ⟨b,0,none⟩)] w λe w'=>e=Ji (QM #[])/\w'=w:=by
 obtain⟨j,a,_⟩:=Option.map_eq_some_iff.1 Tryz.sizeBuilder;go_enter QV,QU;go_wp2;rw[Lib.run_neq_ptr_same w _ QO a];go_wp2;go_end0
 exact⟨rfl,rfl⟩
theorem Mv(b:Nat)(w:Jd)(h0:w.cell? ⟨b,0,none⟩=some (QI none))(c:w.shape? b=some (90,2))(f:w.frozen? ⟨b,0,none⟩=false):
  Je QN 135 #[QI (some ⟨b,0,none⟩)] w λe w'=>e=Ji (QM #[])/\w'=w.setCell ⟨b,0,none⟩ (QI (some ⟨b,0,none⟩)):=by
 obtain⟨j,a,d⟩:=Option.map_eq_some_iff.1 Tryz.sizeBuilder;go_enter QV,QU;go_wp2;rw[Lib.run_to_unsafe w ⟨b,0,none⟩ QO QR a (by rw[d];decide) c (Nat.zero_lt_succ 1)];simp only[Result.andThen];rw[Jj];go_wp2;rw[run_callFunc_extern Tryz.func190 kr kr kr (e:=Extern.AbiNoEscape.same) kr];rw[Lib.run_noEscape];simp only[Result.andThen];rw[Jj];go_wp2;rw[Lib.run_from_unsafe w ⟨b,0,none⟩ QR QO a c kr];simp only[Result.andThen];rw[Jj];go_wp2;go_end0
 exact⟨rfl,rfl⟩
theorem aaa(B b:Nat)(l:List Value)(w:Jd)(h:QD 90 5 B b l w):
  Je QN 135 #[QI (some ⟨b,0,none⟩)] w λe w'=>e=Ji (QM #[])/\(Qy 90 5 B b (QI (some ⟨b,0,none⟩)) l w'/\Below B w w'):=by
 rcases h with h|h
 .refine(Mv b w h.cell0 h.shape h.frozen0).mono ?_;rintro e w' ⟨rfl,rfl⟩;exact⟨rfl,h.used _,(Below.refl B w).setCell (p:=⟨b,0,none⟩) h.1 _⟩
 .refine(NZ b w h.cell0).mono ?_;rintro e w' ⟨rfl,rfl⟩;exact⟨rfl,h,Below.refl B _⟩
theorem VI(B b:Nat)(bs:List Value)(s:ByteArray)(w:World)(h:Lib.IsBuilderF 90 5 B b bs w)(hlen:bs.length+s.size<=140737488355328)(hBw:B<=w.heap.size):
  Calls Tryz.prog 69 #[.pointer (some ⟨b,0,none⟩),.string s] w λe w'=>e=.returned (.tuple #[.int .i64 s.size,.nilIface])/\(Lib.BuilderAtF 90 5 B b (.pointer (some ⟨b,0,none⟩)) (bs++Lib.strCells s) w'/\Below B w w'):=by
 obtain⟨i0,hi,hz0,hz1,hz2⟩:=info_parts Tryz.infoByte;go_enter Tryz.func69,Tryz.ntmps69;go_wp2_with (go_at_call 135;refine(aaa B b bs _ h).mono ?_);rintro e w1 ⟨rfl,h1,hb1⟩;obtain⟨hB,v,hbk,adF,hne⟩:=h1;have c0:w1.cell? ⟨b,0,none⟩=some (.pointer (some ⟨b,0,none⟩)):=by rw[Lib.cell_of_heap hbk];rfl
 have c1:w1.cell? ⟨b,1,none⟩=some v:=by rw[Lib.cell_of_heap hbk];rfl
 go_wp2_with (at_builtin;refine Lib.wpList_append_own_stringF _ rfl _ _ 55 9 rfl B 5 i0 Tryz.underlying55 Tryz.underlying9 hi hz0 hz1 hz2 _ _ _ rfl adF s rfl ?c3 ?c4 ?c5 ?_);case c3=>unfold maxLen;omega
 case c4=>omega
 case c5=>have:=hb1.size;omega
 intro v' w2 hown' hgrow _;have hlt:=(Array.getElem?_eq_some_iff.1 hbk).1;have hb2:w2.heap[b]? =some (.cells #[.pointer (some ⟨b,0,none⟩),v] 90 (0,0)):=by
  rw[hgrow.block b hlt (λe=>hne e.symm)];exact hbk
 have d0:w2.cell? ⟨b,0,none⟩=some (.pointer (some ⟨b,0,none⟩)):=by rw[Lib.cell_of_heap hb2];rfl
 have d1:w2.cell? ⟨b,1,none⟩=some v:=by rw[Lib.cell_of_heap hb2];rfl
 have f1:=Lib.frozen_of_heap hb2 1;obtain⟨ao,n',cap,rfl⟩:∃ao n' cap,v'=.slice ao n' cap:=by
  rcases hown'.2 with ⟨hv,_⟩|⟨g,cap,cur,fz,hv,_⟩
  .exact⟨_,_,_,hv⟩
  .exact⟨_,_,_,hv⟩
 go_wp2;go_ret2;refine⟨rfl,?_,?_⟩
 .exact Lib.BuilderAtF.put (T:=90) (e:=5) hB hb2 (bs':=bs++Lib.strCells s) (by simpa [Lib.strCells_length]using hown') dd
 .exact(hb1.grown hgrow (by have:=hb1.size;omega) (λk hk=>(adF.lt k hk).1)).setCell (p:=⟨b,1,none⟩) hB _
theorem wI(B b:Nat)(l:Qu)(s:Qb)(w:Jd)(h:Bld B b l w)(d:l.length+s.size<=140737488355328)(c:B<=w.heap.size):
  Je QN 69 #[QI (some ⟨b,0,none⟩),QH s] w λe w'=>e=Ji (QM #[QJ .i64 s.size,.nilIface])/\(Bld B b (l++s.data.toList) w'/\Below B w w'):=by
 refine(VI B b _ s w h (by rw[Lib.byteCells_length];exact d) c).mono ?_;rintro e w' ⟨rfl,a,h2⟩;rw[PQ]at a;exact⟨rfl,.inr a,h2⟩
theorem sf(B b:Nat)(l:Qu)(w:Jd)(h:Bld B b l w)(a:B<=w.heap.size):
  Je QN 71 #[QI (some ⟨b,0,none⟩)] w λe w'=>e=Ji (QH ⟨l.toArray⟩)/\(Bld B b l w'/\Below B w w'):=
 Tryz.Builder_String_any_f B b l w h a
theorem Il(w:Jd):Bld w.heap.size w.heap.size [] (w.alloc (Jh #[QI none,QL none 0 0] 90)):=by
 refine .inl ⟨Ja _,QL none 0 0,heap_alloc_new w _,World.ownsRowF_nil _ _ _ _,?_⟩;intro e;cases e
theorem Bld.keep{B b:Nat}{l:Qu}{w w':Jd}(h:Bld B b l w)(d:Below w.heap.size w w'):Bld B b l w':=by
 have e:∀p,Qy 90 5 B b p (Qt l) w->Qy 90 5 B b p (Qt l) w':=by
  rintro p ⟨k,v,a,⟨n,f⟩,q⟩;refine⟨k,v,?_,⟨n,?_⟩,q⟩
  .rw[d.block b (Jg.1 a).1];exact a
  .rcases f with o|⟨g,cap,i,j,r,m,c,rest⟩
   .exact .inl o
   .refine .inr ⟨g,cap,i,j,r,m,?_,rest⟩;rw[d.block g (Jg.1 c).1];exact c
 rcases h with h|h
 .exact .inl (e _ h)
 .exact .inr (e _ h)
end Go.Proofs.YtclpbaokadfhhaaGreatDoor
namespace Go.Proofs.YtclpbaokadfhhaaGreatDoor
def Tx_alpha:List UInt8:=[65,66,67,68,69,70,71,72,73,74,75,76,77,78,79,80,81,82,83,84,85,86,87,88,89,90,97,98,99,100,101,102,103,104,105,106,107,108,109,110,111,112,113,114,115,116,117,118,119,120,121,122,48,49,50,51,52,53,54,55,56,57,43,47]
def cR(x:UInt8):UInt8:=Tx_alpha.getD x.toNat 0
def aH(x:UInt8):UInt8:=(Lib.indexByte Tx_alpha x%256).toNat.toUInt8
def cA:List UInt8->List UInt8
 | [a]=>[cR (a>>>2),cR ((a&&&3)<<<4),61,61]
 | [a,b]=>[cR (a>>>2),cR ((a&&&3)<<<4|||b>>>4),cR ((b&&&15)<<<2),61]
 | [a,b,c]=>[cR (a>>>2),cR ((a&&&3)<<<4|||b>>>4),cR ((b&&&15)<<<2|||c>>>6),cR (c&&&63)]
 |_=>[61,61,61,61]
def aP:List UInt8->List UInt8
 | []=>[]
 | [a]=>cA [a]
 | [a,b]=>cA [a,b]
 |a::b::c::r=>cA [a,b,c]++aP r
def jz:List UInt8->List UInt8
 | [a,b,c,d]=>[aH a<<<2|||aH b>>>4,aH b<<<4|||aH c>>>2,aH c<<<6|||aH d]
 | [a,b,c]=>[aH a<<<2|||aH b>>>4,aH b<<<4|||aH c>>>2]
 | [a,b]=>[aH a<<<2|||aH b>>>4]
 |_=>[]
def mj(f:List UInt8):List UInt8:=jz (Qq f 61)
def f9:List UInt8->List UInt8
 |a::b::c::d::r=>mj [a,b,c,d]++f9 r
 |_=>[]
theorem TP:∀i:Fin 64,cR i.val.toUInt8≠61/\aH (cR i.val.toUInt8)=i.val.toUInt8/\cR i.val.toUInt8≠10:=dk
theorem qY(x:UInt8)(h:x.toNat<64):cR x≠61/\aH (cR x)=x/\cR x≠10:=by
 have:=TP ⟨x.toNat,h⟩;simpa using this
theorem abQ:∀i:Fin 256,(i.val.toUInt8>>>2).toNat<64/\(i.val.toUInt8&&&63).toNat<64/\((i.val.toUInt8&&&3)<<<4).toNat<64/\((i.val.toUInt8&&&15)<<<2).toNat<64
  /\(i.val.toUInt8>>>4).toNat<16/\(i.val.toUInt8>>>6).toNat<4:=dk
theorem kR(x:UInt8):(x>>>2).toNat<64/\(x&&&63).toNat<64/\((x&&&3)<<<4).toNat<64/\((x&&&15)<<<2).toNat<64/\(x>>>4).toNat<16/\(x>>>6).toNat<4:=by
 have:=abQ ⟨x.toNat,x.toNat_lt⟩;simpa using this
theorem abS:∀(i:Fin 256) (j:Fin 16),((i.val.toUInt8&&&3)<<<4|||j.val.toUInt8).toNat<64
  /\(i.val.toUInt8>>>2)<<<2|||((i.val.toUInt8&&&3)<<<4|||j.val.toUInt8)>>>4=i.val.toUInt8:=dk
theorem xU(x y:UInt8)(h:y.toNat<16):((x&&&3)<<<4|||y).toNat<64/\(x>>>2)<<<2|||((x&&&3)<<<4|||y)>>>4=x:=by
 have:=abS ⟨x.toNat,x.toNat_lt⟩ ⟨y.toNat,h⟩;simpa using this
theorem abR:∀(i:Fin 256) (j:Fin 4),((i.val.toUInt8&&&15)<<<2|||j.val.toUInt8).toNat<64:=dk
theorem Ed(x y:UInt8)(h:y.toNat<4):((x&&&15)<<<2|||y).toNat<64:=by
 have:=abR ⟨x.toNat,x.toNat_lt⟩ ⟨y.toNat,h⟩;simpa using this
theorem abT:∀(i:Fin 4) (j:Fin 256) (k:Fin 4),(i.val.toUInt8<<<4|||j.val.toUInt8>>>4)<<<4|||((j.val.toUInt8&&&15)<<<2|||k.val.toUInt8)>>>2=j.val.toUInt8:=dk
theorem aag:∀i:Fin 256,(i.val.toUInt8&&&3).toNat<4:=dk
theorem LP(x y z:UInt8)(b:z.toNat<4):((x&&&3)<<<4|||y>>>4)<<<4|||((y&&&15)<<<2|||z)>>>2=y:=by
 have a:(x&&&3).toNat<4:=by have:=aag ⟨x.toNat,x.toNat_lt⟩;simpa using this
 have:=abT ⟨(x&&&3).toNat,a⟩ ⟨y.toNat,y.toNat_lt⟩ ⟨z.toNat,b⟩;simpa only [QW,Q9]using this
theorem abU:∀(i:Fin 16) (j:Fin 256),(i.val.toUInt8<<<2|||j.val.toUInt8>>>6)<<<6|||(j.val.toUInt8&&&63)=j.val.toUInt8:=dk
theorem X6:∀i:Fin 256,(i.val.toUInt8&&&15).toNat<16:=dk
theorem VR(x y:UInt8):((x&&&15)<<<2|||y>>>6)<<<6|||(y&&&63)=y:=by
 have a:(x&&&15).toNat<16:=by have:=X6 ⟨x.toNat,x.toNat_lt⟩;simpa using this
 have:=abU ⟨(x&&&15).toNat,a⟩ ⟨y.toNat,y.toNat_lt⟩;simpa only [QW,Q9]using this
theorem XV(p q r s:UInt8)(h:s≠61):Qq [p,q,r,s] 61=[p,q,r,s]:=by
 simp[Qq,h]
theorem XW(p q r:UInt8)(h:r≠61):Qq [p,q,r,61] 61=[p,q,r]:=by
 simp[Qq,h]
theorem XY(p q:UInt8)(h:q≠61):Qq [p,q,61,61] 61=[p,q]:=by
 simp[Qq,h]
theorem KM(a:UInt8):mj (cA [a])=[a]:=by
 obtain⟨f,h2,g,h,i,j⟩:=kR a;have z:(0:UInt8).toNat<16:=dd
 obtain⟨c,d⟩:=xU a 0 z;rw[QY]at c d;have e:=qY _ f;have b:=qY _ c;show jz (Qq [_,_,61,61] 61)=_
 rw[XY _ _ b.1,jz,e.2.1,b.2.1,d]
theorem KL(a b:UInt8):mj (cA [a,b])=[a,b]:=by
 obtain⟨j,h2,l,m,n,o⟩:=kR a;obtain⟨p,q,r,s,k,t⟩:=kR b;obtain⟨h,i⟩:=xU a _ k;have z:(0:UInt8).toNat<4:=dd
 have d:=Ed b 0 z;have e:=LP a b 0 z;rw[QY]at d e;have f:=qY _ j;have g:=qY _ h;have c:=qY _ d;show jz (Qq [_,_,_,61] 61)=_
 rw[XW _ _ _ c.1,jz,f.2.1,g.2.1,c.2.1,i,e]
theorem KJ(a b c:UInt8):mj (cA [a,b,c])=[a,b,c]:=by
 obtain⟨l,h2,o,p,q,r⟩:=kR a;obtain⟨s,t,u,v,m,w⟩:=kR b;obtain⟨x,n,y,z,A,e⟩:=kR c;obtain⟨i,j⟩:=xU a _ m;have k:=Ed b _ e;have f:=qY _ l;have g:=qY _ i;have h:=qY _ k;have d:=qY _ n;show jz (Qq [_,_,_,_] 61)=_
 rw[XV _ _ _ _ d.1,jz,f.2.1,g.2.1,h.2.1,d.2.1,j,LP a b _ e,VR]
theorem xv(f:Qu)(e:f.length=4)(r:Qu):f9 (f++r)=mj f++f9 r:=by
 match f,e with
 | [a,b,c,d],_=>rfl
theorem iy(l:Qu):(cA l).length=4:=by unfold cA;split<;>rfl
theorem Iv:∀l:List UInt8,f9 (aP l)=l
 | []=>rfl
 | [a]=>by
  have:=xv (cA [a]) (iy _) [];rw[Qo,KM]at this;exact this
 | [a,b]=>by
  have:=xv (cA [a,b]) (iy _) [];rw[Qo,KL]at this;exact this
 |a::b::c::r=>by
  rw[aP,xv _ (iy _),KJ,Iv r];rfl
theorem jW:∀l:List UInt8,(aP l).length=4*((l.length+2)/3)
 | []=>rfl
 | [a]=>by rw[aP,iy];simp only[Qa,Qm]
 | [a,b]=>by rw[aP,iy];simp only[Qa,Qm]
 |a::b::c::r=>by
  rw[aP,Qf,iy,jW r];simp only[Qa];omega
theorem Rb(l:Qu)(h:l≠ []):aP l=cA (l.take (min 3 l.length))++aP (l.drop (min 3 l.length)):=by
 match l,h with
 | [a],_=>rfl
 | [a,b],_=>rfl
 |a::b::c::r,_=>
  have:min 3 (a::b::c::r).length=3:=by simp only[Qa];omega
  rw[this,aP];rfl
theorem F0(l:Qu)(h:4<=l.length):f9 l=mj (l.take 4)++f9 (l.drop 4):=by
 have:=xv (l.take 4) (by rw[Qk];omega) (l.drop 4);rwa [List.take_append_drop]at this
theorem Ef(l:Qu)(h:l.length<4):f9 l=[]:=by
 match l,h with
 | [],_=>rfl
 | [a],_=>rfl
 | [a,b],_=>rfl
 | [a,b,c],_=>rfl
def aU(l:List UInt8):List UInt8×Bool:=if l=[]\/64<l.length then([],false)else (f9 l,aP (f9 l)==l)
def po:Nat->List UInt8->List (List UInt8)
 |0,_=>[]
 |n+1,l=>if l=[]then []else l.take 48::po n (l.drop 48)
theorem wO:∀(n m:Nat) (l:List UInt8),l.length<=n->l.length<=m->po n l=po m l
 |0,0,_,_,_=>rfl
 |0,m+1,l,h,_=>by
  have:l=[]:=Qd.1 oo;rw[this];rfl
 |n+1,0,l,_,h=>by
  have:l=[]:=Qd.1 oo;rw[this];rfl
 |n+1,m+1,l,c,b=>by
  rw[po,po];by_cases h:l=[]
  .rw[if_pos h,if_pos h]
  .have a:=λe=>h (Qd.1 e)
   rw[if_neg h,if_neg h,wO n m (l.drop 48) (by rw[Qc];omega) (by rw[Qc];omega)]
def fG(l:List UInt8):List (List UInt8):=po l.length l
theorem sj:fG []=[]:=rfl
theorem rv(l:Qu)(h:l≠ []):fG l=l.take 48::fG (l.drop 48):=by
 have a:=λe=>h (Qd.1 e)
 show po l.length l=l.take 48::po (l.drop 48).length (l.drop 48)
 rw[wO l.length (l.length+1) l nR oo,po,if_neg h,wO l.length (l.drop 48).length (l.drop 48) (by rw[Qc];omega) nR]
def aE:List (List UInt8)->List UInt8
 | []=>[]
 |l::r=>l++10::aE r
theorem ko:∀a b:List (List UInt8),aE (a++b)=aE a++aE b
 | [],b=>rfl
 |l::r,b=>by simp[aE,ko r b]
def eG:List UInt8:=[45,45,45,45,45,66,69,71,73,78,32,77,73,83,83,73,86,69,45,45,45,45,45]
def ju:List UInt8:=[45,45,45,45,45,69,78,68,32,77,73,83,83,73,86,69,45,45,45,45,45]
def yB(b:List UInt8):List (List UInt8):=eG::((fG b).map aP++ [ju])
def oF(b:List UInt8):List UInt8:=aE (yB b)
def cF:List (List UInt8)->List UInt8×Nat
 | []=>([],0)
 |l::r=>
  let (b,right):=aU l
  if right=false then([],0)
  else if b.length<48 then(b,1)
  else
   let (x,n):=cF r
   (b++x,n+1)
def eU(ls:List (List UInt8))(b:List UInt8):List UInt8×Nat×Bool:=
 match ls with
 | []=>([],0,false)
 |l::r=>
  if l≠eG then([],0,false)
  else
   let (x,n):=cF r
   match r[n]? with
   |none=>([],n+1,false)
   |some z=>if z≠ju then([],n+1,false)else if n+1<r.length\/b≠ []then ([],n+2,false)else (x,0,true)
theorem KO:(aU ju).2=false:=dk
theorem Od(r:List (List UInt8)):cF (ju::r)=([],0):=by
 unfold cF;have:=KO;generalize aU ju=x at this;obtain⟨b,c⟩:=x;simp only at this;subst this;rfl
theorem vJ{l:Qu}(r:List (List UInt8))(h:(aU l).2=false):cF (l::r)=([],0):=by
 unfold cF;generalize aU l=x at h;obtain⟨b,c⟩:=x;simp only at h;subst h;rfl
theorem ul{l:Qu}(r:List (List UInt8))(h:(aU l).2=true)(h2:(aU l).1.length<48):cF (l::r)=((aU l).1,1):=by
 unfold cF;generalize aU l=x at h h2;obtain⟨b,c⟩:=x;simp only at h h2;subst h;simp[h2]
theorem vK{l:Qu}(r:List (List UInt8))(h:(aU l).2=true)(h2:¬(aU l).1.length<48):cF (l::r)=((aU l).1++(cF r).1,(cF r).2+1):=by
 rw[cF];generalize aU l=x at h h2;obtain⟨b,c⟩:=x;simp only at h h2;subst h;simp[h2]
theorem zo:∀(ls:List (List UInt8)) (b:List UInt8),(∀l∈ls,(10:UInt8)∉l)->(10:UInt8)∉b->(aE ls++b).count 10=ls.length
 | [],b,_,a=>by simpa [aE,Qg]using a
 |l::r,b,h,a=>by
  have d:=zo r b (λx c=>h x (by simp[c])) a;have h0:=Qg.2 (h l ss);rw[Qi]at d;simp only[aE,Qj,List.cons_append,Qi,List.count_cons,h0,Qa];simp only[BEq.rfl,if_true];omega
theorem Rc(n:Nat):∀b:List UInt8,b.length<=n-> ∀x∈fG b,x.length<=48:=by
 induction n with
 |zero=>
  intro b h x a;have:b=[]:=by simpa using h
  subst this;rw[sj]at a;cases a
 |succ n c=>
  intro b h x a;by_cases h0:b=[]
  .subst h0;rw[sj]at a;cases a
  .have d:1<=b.length:=by cases b;exact absurd rfl h0;simp
   rw[rv b h0,Qp]at a;rcases a with rfl|a
   .rw[Qk];omega
   .exact c (b.drop 48) (by rw[Qc];omega) x a
theorem Ad(n:Nat):∀b:List UInt8,b.length<=n->(fG b).length=(b.length+47)/48:=by
 induction n with
 |zero=>
  intro b h;have:b=[]:=by simpa using h
  subst this;rw[sj];rfl
 |succ n a=>
  intro b h;by_cases h0:b=[]
  .subst h0;rw[sj];rfl
  .have c:1<=b.length:=by cases b;exact absurd rfl h0;simp
   rw[rv b h0,Qa,a (b.drop 48) (by rw[Qc];omega),Qc];omega
theorem Bn:∀t:List UInt8,∃ls b,(∀l∈ls,(10:UInt8)∉l)/\(10:UInt8)∉b/\t=aE ls++b
 | []=>⟨[],[],by simp,by simp,rfl⟩
 |x::r=>by
  obtain⟨ls,b,c,h2,e⟩:=Bn r;by_cases d:x=10
  .subst d;exact⟨[]::ls,b,by simpa using c,h2,by rw[e];rfl⟩
  .cases ls with
   |nil=>exact⟨[],x::b,ss,by simp[h2,Ne.symm d],by rw[e];rfl⟩
   |cons l ls=>
    refine⟨(x::l)::ls,b,?_,h2,by rw[e];rfl⟩;intro y a;simp only[Qp]at a;rcases a with rfl|a
    .have:=c l ss;simp[this,Ne.symm d]
    .exact c y (by simp[a])
theorem Oe(c:UInt8)(l r:Qu)(h:c∉l):QA (l++c::r) [c]=(l.length:Int):=by
 induction l with
 |nil=>
  show QA (c::r) [c]=_
  rw[QA];simp[Qn]
 |cons x l d=>
  have b:x≠c:=λe=>h (by simp[e])
  have f:=d (λe=>h (by simp[e]));show QA (x::(l++c::r)) [c]=_
  have a:([c]:List UInt8).isPrefixOf (x::(l++c::r))=false:=by simp[Qn,Ne.symm b]
  rw[QA,a,f];have h2:((l.length:Int)== -1)=false:=ss
  rw[h2];simp
theorem Bl:∀(ls:List (List UInt8)) (b:List UInt8),(∀l∈ls,(10:UInt8)∉l)->QE [10] 0 ls.length (aE ls++b)=ls++ [b]
 | [],b,_=>rfl
 |l::r,b,h=>by
  have d:=Bl r b (λx c=>h x (by simp[c]));have e:aE (l::r)++b=l++10::(aE r++b):=by simp[aE]
  rw[e,Qa,QE,Oe 10 l _ (h l ss)];have h2:((l.length:Int)== -1)=false:=ss
  rw[h2];simp only[Bool.false_eq_true,if_false,Int.toNat_natCast,Nat.add_zero,List.take_left',List.length_singleton];have a:(l++10::(aE r++b)).drop (l.length+1)=aE r++b:=by
   rw[List.drop_append,List.drop_of_length_le oo];have:l.length+1-l.length=1:=oo
   rw[this];rfl
  rw[a,d];rfl
theorem Ab(s:Qb)(ls:List (List UInt8))(b:Qu)(d:s.data.toList=aE ls++b)(h:∀l∈ls,(10:UInt8)∉l)(g:(10:UInt8)∉b):
  QC s ⟨#[10]⟩=ls.length/\QB ⟨#[10]⟩ 0 (QC s ⟨#[10]⟩) s=(ls++ [b]).map λl=>(⟨l.toArray⟩:ByteArray):=by
 have a:QC s ⟨#[10]⟩=ls.length:=by
  have:QC s ⟨#[10]⟩=Lib.count s.data.toList [10]:=rfl;rw[this,d,Lib.count_one,zo ls b h g]
 refine⟨a,?_⟩;rw[a];have c:=Lib.splitB_data ⟨#[10]⟩ 0 ls.length s;have e:(⟨#[10]⟩:ByteArray).data.toList=[10]:=rfl;rw[d,e,Bl ls b h]at c;have f:((QB ⟨#[10]⟩ 0 ls.length s).map (·.data.toList)).map (λl=>(⟨l.toArray⟩:ByteArray))=QB ⟨#[10]⟩ 0 ls.length s:=by
  rw[List.map_map];conv=>rhs;rw[<-List.map_id (QB ⟨#[10]⟩ 0 ls.length s)]
  apply List.map_congr_left
  intro x _;rfl
 rw[<-f,c]
open Go.RowKit
def Y(x:UInt8):Int:=x.toNat
theorem adm(x:UInt8):0<=Y x:=by unfold Y;omega
theorem KI(x y:UInt8):bits Jb QF (Y x) (Y y)=Y (x&&&y):=by
 show QF.wrap ((Q6 8 (x.toNat:Int)&&&Q6 8 (y.toNat:Int)).toNat:Int)=_
 unfold Y;rw[Q5,Q5,BitVec.toNat_and,QZ];have b:=x.toNat_lt;have h2:=y.toNat_lt;have a:=(x&&&y).toNat_lt;rw[QZ]at a;simp only[Q7];rw[Q8 oo,Q8 oo,QG];omega
theorem or8(x y:UInt8):bits Jc QF (Y x) (Y y)=Y (x|||y):=by
 show QF.wrap ((Q6 8 (x.toNat:Int)|||Q6 8 (y.toNat:Int)).toNat:Int)=_
 unfold Y;rw[Q5,Q5,BitVec.toNat_or,Q0];have b:=x.toNat_lt;have h2:=y.toNat_lt;have a:=(x|||y).toNat_lt;rw[Q0]at a;simp only[Q7];rw[Q8 oo,Q8 oo,QG];omega
theorem acU:∀i:Fin 256,(∀k:Fin 8,(i.val.toUInt8<<<k.val.toUInt8).toNat=i.val*2^k.val%256):=dk
theorem acS:∀i:Fin 256,(∀k:Fin 8,(i.val.toUInt8>>>k.val.toUInt8).toNat=i.val/2^k.val):=dk
theorem vo(x:UInt8)(k:Fin 8):Y x*((2^k.val:Nat):Int)%256=Y (x<<<k.val.toUInt8):=by
 have:=acU ⟨x.toNat,x.toNat_lt⟩ k;unfold Y;simp only[Q9,QW]at this|-;rw[this];omega
theorem vk(x:UInt8)(k:Fin 8):Y x/((2^k.val:Nat):Int)=Y (x>>>k.val.toUInt8):=by
 have:=acS ⟨x.toNat,x.toNat_lt⟩ k;unfold Y;simp only[Q9,QW]at this|-;rw[this];omega
abbrev alphaB:ByteArray:=⟨#[65,66,67,68,69,70,71,72,73,74,75,76,77,78,79,80,81,82,83,84,85,86,87,88,89,90,97,98,99,100,101,102,103,104,105,106,107,108,109,110,111,112,113,114,115,116,117,118,119,120,121,122,48,49,50,51,52,53,54,55,56,57,43,47]⟩
theorem vg(z:UInt8)(h:z.toNat<64)(w:Jd):(Instr.index 9 (QH alphaB) (QJ QF (Y z))).run QN w=.ok (QJ QF ((cR z).toNat:Int)) w:=by
 have e:∀i:Fin 64,alphaB.data.toList.getD i.val 0=cR i.val.toUInt8:=dk
 have b:=e ⟨z.toNat,h⟩;have f:z.toNat.toUInt8=z:=ss
 rw[f]at b;have a:z.toNat<alphaB.size:=h;have h0:=adm z;have g:Y z<(alphaB.size:Int):=by unfold Y;exact Int.ofNat_lt.2 a
 have j:(Y z).toNat=z.toNat:=rfl;rw[run_index_string (h:=QT),dif_pos ⟨h0,g⟩];have c:alphaB[z.toNat]=cR z:=by
  rw[<-b];show alphaB.data[z.toNat]=_
  rw[List.getD_eq_getElem?_getD,List.getElem?_eq_getElem (show z.toNat<alphaB.data.toList.length from a)];rfl
 have d:alphaB[(Y z).toNat]'(by rw[j];exact a)=cR z:=c;rw[d]
theorem Z6(a:UInt8)(w:Jd):
  Rw 136 #[QH ⟨#[a]⟩] w (QH ⟨(cA [a]).toArray⟩):=by
 have e:(((⟨#[a]⟩:ByteArray)[0]'(by show 0<1;omega)).toNat:Int)=Y a:=rfl;have f:bits Jb QF (Y a) 3=Y (a&&&3):=KI a 3;have g:QF.wrap (Y (a&&&3)*16)=Y ((a&&&3)<<<4):=(QG _).trans (vo (a&&&3) 4);have h:bits Jc QF (Y ((a&&&3)<<<4)) (0)=Y ((a&&&3)<<<4):=by rw[show (0:Int)=Y 0 from rfl,or8,QY]
 have i:=vg ((a&&&3)<<<4) (kR a).2.2.1;have b:Y a/(4:Int)=Y (a>>>2):=vk a 2;have c:=vg (a>>>2) (kR a).1;rw[<-b]at c;have d:(Jf 55 9 (QL (some ⟨w.heap.size,0,none⟩) 4 4)).run QN (w.alloc (Jh #[QJ QF ((cR (a>>>2)).toNat:Int),QJ QF ((cR ((a&&&3)<<<4)).toNat:Int),QJ QF 61,QJ QF 61] 126))=.ok (QH ⟨#[cR (a>>>2),cR ((a&&&3)<<<4),61,61]⟩) (w.alloc (Jh #[QJ QF ((cR (a>>>2)).toNat:Int),QJ QF ((cR ((a&&&3)<<<4)).toNat:Int),QJ QF 61,QJ QF 61] 126)):=
  gc (Blk.new w (Bs [cR (a>>>2),cR ((a&&&3)<<<4),61,61]) 126) 4 rfl
 clear b;go_enter QQ,QP;go_wp2;go_ret;exact⟨rfl,bR.alloc nR _⟩
theorem ZX(a b:UInt8)(w:Jd):
  Rw 136 #[QH ⟨#[a,b]⟩] w (QH ⟨(cA [a,b]).toArray⟩):=by
 have g:(((⟨#[a,b]⟩:ByteArray)[0]'(by show 0<2;omega)).toNat:Int)=Y a:=rfl;have h:(((⟨#[a,b]⟩:ByteArray)[1]'(by show 1<2;omega)).toNat:Int)=Y b:=rfl;have j:bits Jb QF (Y b) 15=Y (b&&&15):=KI b 15;have l:QF.wrap (Y (b&&&15)*4)=Y ((b&&&15)<<<2):=(QG _).trans (vo (b&&&15) 2);have n:bits Jc QF (Y ((b&&&15)<<<2)) (0)=Y ((b&&&15)<<<2):=by rw[show (0:Int)=Y 0 from rfl,or8,QY]
 have p:=vg ((b&&&15)<<<2) ((kR b).2.2.2.1);have d:Y b/(16:Int)=Y (b>>>4):=vk b 4;have i:bits Jb QF (Y a) 3=Y (a&&&3):=KI a 3;have k:QF.wrap (Y (a&&&3)*16)=Y ((a&&&3)<<<4):=(QG _).trans (vo (a&&&3) 4);have m:bits Jc QF (Y ((a&&&3)<<<4)) (Y b/(16:Int))=Y ((a&&&3)<<<4|||b>>>4):=by rw[d];exact or8 _ _
 have o:=vg ((a&&&3)<<<4|||b>>>4) (xU a _ (kR b).2.2.2.2.1).1;have c:Y a/(4:Int)=Y (a>>>2):=vk a 2;have e:=vg (a>>>2) (kR a).1;rw[<-c]at e;have f:(Jf 55 9 (QL (some ⟨w.heap.size,0,none⟩) 4 4)).run QN (w.alloc (Jh #[QJ QF ((cR (a>>>2)).toNat:Int),QJ QF ((cR ((a&&&3)<<<4|||b>>>4)).toNat:Int),QJ QF ((cR ((b&&&15)<<<2)).toNat:Int),QJ QF 61] 126))=.ok (QH ⟨#[cR (a>>>2),cR ((a&&&3)<<<4|||b>>>4),cR ((b&&&15)<<<2),61]⟩) (w.alloc (Jh #[QJ QF ((cR (a>>>2)).toNat:Int),QJ QF ((cR ((a&&&3)<<<4|||b>>>4)).toNat:Int),QJ QF ((cR ((b&&&15)<<<2)).toNat:Int),QJ QF 61] 126)):=
  gc (Blk.new w (Bs [cR (a>>>2),cR ((a&&&3)<<<4|||b>>>4),cR ((b&&&15)<<<2),61]) 126) 4 rfl
 clear c d;go_enter QQ,QP;go_wp2;go_ret;exact⟨rfl,bR.alloc nR _⟩
theorem ZW(a b c:UInt8)(w:Jd):
  Rw 136 #[QH ⟨#[a,b,c]⟩] w (QH ⟨(cA [a,b,c]).toArray⟩):=by
 have i:(((⟨#[a,b,c]⟩:ByteArray)[0]'(by show 0<3;omega)).toNat:Int)=Y a:=rfl;have j:(((⟨#[a,b,c]⟩:ByteArray)[1]'(by show 1<3;omega)).toNat:Int)=Y b:=rfl;have k:(((⟨#[a,b,c]⟩:ByteArray)[2]'(by show 2<3;omega)).toNat:Int)=Y c:=rfl;have n:bits Jb QF (Y c) 63=Y (c&&&63):=KI c 63;have u:=vg (c&&&63) (kR c).2.1;have f:Y c/(64:Int)=Y (c>>>6):=vk c 6;have m:bits Jb QF (Y b) 15=Y (b&&&15):=KI b 15;have p:QF.wrap (Y (b&&&15)*4)=Y ((b&&&15)<<<2):=(QG _).trans (vo (b&&&15) 2);have r:bits Jc QF (Y ((b&&&15)<<<2)) (Y c/(64:Int))=Y ((b&&&15)<<<2|||c>>>6):=by rw[f];exact or8 _ _
 have t:=vg ((b&&&15)<<<2|||c>>>6) (Ed b _ (kR c).2.2.2.2.2);have e:Y b/(16:Int)=Y (b>>>4):=vk b 4;have l:bits Jb QF (Y a) 3=Y (a&&&3):=KI a 3;have o:QF.wrap (Y (a&&&3)*16)=Y ((a&&&3)<<<4):=(QG _).trans (vo (a&&&3) 4);have q:bits Jc QF (Y ((a&&&3)<<<4)) (Y b/(16:Int))=Y ((a&&&3)<<<4|||b>>>4):=by rw[e];exact or8 _ _
 have s:=vg ((a&&&3)<<<4|||b>>>4) (xU a _ (kR b).2.2.2.2.1).1;have d:Y a/(4:Int)=Y (a>>>2):=vk a 2;have g:=vg (a>>>2) (kR a).1;rw[<-d]at g;have h:(Jf 55 9 (QL (some ⟨w.heap.size,0,none⟩) 4 4)).run QN (w.alloc (Jh #[QJ QF ((cR (a>>>2)).toNat:Int),QJ QF ((cR ((a&&&3)<<<4|||b>>>4)).toNat:Int),QJ QF ((cR ((b&&&15)<<<2|||c>>>6)).toNat:Int),QJ QF ((cR (c&&&63)).toNat:Int)] 126))=.ok (QH ⟨#[cR (a>>>2),cR ((a&&&3)<<<4|||b>>>4),cR ((b&&&15)<<<2|||c>>>6),cR (c&&&63)]⟩) (w.alloc (Jh #[QJ QF ((cR (a>>>2)).toNat:Int),QJ QF ((cR ((a&&&3)<<<4|||b>>>4)).toNat:Int),QJ QF ((cR ((b&&&15)<<<2|||c>>>6)).toNat:Int),QJ QF ((cR (c&&&63)).toNat:Int)] 126)):=
  gc (Blk.new w (Bs [cR (a>>>2),cR ((a&&&3)<<<4|||b>>>4),cR ((b&&&15)<<<2|||c>>>6),cR (c&&&63)]) 126) 4 rfl
 clear d e f;go_enter QQ,QP;go_wp2;go_ret;exact⟨rfl,bR.alloc nR _⟩
theorem To(s:Qb)(w:Jd)(f:1<=s.size)(e:s.size<=3):
  Rw 136 #[QH s] w (QH ⟨(cA s.data.toList).toArray⟩):=by
 obtain⟨⟨l⟩⟩:=s;have g:(Jl ⟨l⟩).size=l.length:=rfl;rw[g]at f e;match l,f,e with
 | [a],_,_=>exact Z6 a w
 | [a,b],_,_=>exact ZX a b w
 | [a,b,c],_,_=>exact ZW a b c w
 |a::b::c::d::r,_,e=>simp only[Qa]at e;omega
def Zf:Value->ByteArray| QH s=>s|_=>⟨#[]⟩
theorem Di(s:Qb)(n:Nat):(s.extract 0 n).data.toList=s.data.toList.take n:=Lib.extract_from_zero s n
theorem data_extract(s:Qb)(n m:Nat)(h:m=s.size):(s.extract n m).data.toList=s.data.toList.drop n:=by
 subst h;rw[Lib.extract_to_end]
theorem kZ(s:Qb):s.data.toList.length=s.size:=ss
theorem GY{r:Qb}(h:r.size=0):r.toList.isEmpty=true:=by
 rw[ByteArray.toList_eq,List.isEmpty_iff];exact Qe (by rw[kZ];exact h)
theorem Eb{r:Qb}(h:1<=r.size):r.toList.isEmpty=false:=by
 rw[ByteArray.toList_eq];have:=kZ r;cases a:r.data.toList with
 |nil=>rw[a]at this;simp at this;omega
 |cons x y=>rfl
theorem Dg(s:Qb)(w:Jd)(K:s.size<=1000000):
  Rw 70 #[QH s] w (QH ⟨(aP s.data.toList).toArray⟩):=by
 have h:=Il w;have g:Below w.heap.size w (w.alloc (Jh #[QI none,QL none 0 0] 90)):=bR.alloc nR _;go_enter Tryz.func70,Tryz.ntmps70;go_wp2;go_loopw [0] (λv wr=> ∃(r:ByteArray) (l:List UInt8),v=QH r/\r.size<=s.size/\l.length+4*r.size<=4*s.size/\l++aP r.data.toList=aP s.data.toList/\Bld w.heap.size w.heap.size l wr/\Below w.heap.size w wr) (λv _=>(Zf v).size)
 case atStart=>exact⟨s,[],rfl,Ja _,ss,rfl,h,g⟩
 case round=>
  clear h g;obtain⟨r,l,rfl,J,E,i,d,b⟩:=hrel;have B:=b.size;by_cases h0:r.size=0
  .have x:=GY h0;have c:=Qe (by rw[kZ];exact h0);have o:l=aP s.data.toList:=by rw[<-i,c];simp[aP]
   rw[o]at d;go_wp2_with (go_at_call 71;refine(sf w.heap.size w.heap.size _ _ d B).mono ?_);rintro e w' ⟨rfl,D,u⟩;go_wp2;go_ret;exact⟨rfl,b.trans u⟩
  .have p:1<=r.size:=oo
   have x:=Eb p;have c:r.data.toList≠ []:=λe=>by have:=kZ r;rw[e]at this;simp at this;omega
   obtain⟨n,j⟩:∃n:Nat,n=min 3 r.size:=⟨_,rfl⟩
   have k:=Rb r.data.toList c;rw[kZ,<-j]at k;have L:(r.extract 0 n).size=n:=by rw[Jk];omega
   have C:(r.extract n r.size).size=r.size-n:=by rw[Jk];omega
   have F:min 3 (r.size:Int)=(n:Int):=oo
   have G:(0:Int)<=(n:Int):=oo
   have I:(n:Int)<=(r.size:Int):=oo
   have H:n<=r.size:=oo
   have a:1<=n/\n<=3:=oo
   have a:=Qh a;clear j;go_wp2_with fail;refine mo (To (r.extract 0 n) wr (by have:=a.out;omega) (by have:=a.out;omega)) λm f=>?_;rw[Di];have y:=d.keep f;have A:w.heap.size<=m.heap.size:=by have:=f.size;omega
   have q:(⟨(cA (r.data.toList.take n)).toArray⟩:ByteArray).size=4:=iy _;go_wp2_with fail;refine(wI w.heap.size w.heap.size l ⟨(cA (r.data.toList.take n)).toArray⟩ m y (by rw[q];omega) A).mono ?_;rintro e M ⟨rfl,z,t⟩;go_wp2;go_roundw
   case rel=>
    have a:=a.out;refine⟨r.extract n r.size,_,rfl,oo,?_,?_,z,?_⟩
    .rw[Qf,C];show l.length+(cA (r.data.toList.take n)).length+_<=_
     rw[iy];omega
    .rw[data_extract _ _ _ rfl,<-i,k,Qj]
    .exact(b.trans (f.mono oo)).trans t
   case measure=>
    show(r.extract n r.size).size<r.size
    have:=a.out;omega
end Go.Proofs.YtclpbaokadfhhaaGreatDoor
