import Derived.Test.YtclpbaokadfhhaaGreatDoorZt
import Derived.Test.YtclpbaokadfhhaaGreatDoorAg1
set_option maxRecDepth 100000
set_option maxHeartbeats 8000000
open Go.Value renaming string->Qa,int->Qc
open Go.Proofs.Tryz renaming ntmps97->Qd,func97->Qe,ntmps95->Qf,func95->Qg
open List renaming getElem?_eq_getElem->Qi,size_toArray->Qj,getD_eq_getElem?_getD->Qk,getElem?_eq_none->Qm
open Nat renaming reduceEqDiff->Qn
open Bool renaming noConfusion->Qo
open Go.RowKit.Below renaming refl->Qq
open ByteArray renaming size_append->Qt,size_extract->Qx,getElem_eq_getElem_data->Qy
open Go.IntKind renaming i64->Qz,wrap_i64->QA
namespace Go.Proofs.YtclpbaokadfhhaaGreatDoor
open Go.RowKit
open StepsU renaming cons->Qp
theorem Da(l:Qu)(off:Nat)(x:Qv)(k j:Nat)(h:off+k<=l.length):(eg l off x k).getD j 0=if off<=j/\j<off+k then mE x (j-off)else l.getD j 0:=by
 induction k with
 |zero=>rw[eg,if_neg oo]
 |succ k b=>
  rw[eg];by_cases e:off+k=j
  .subst e;rw[xr _ _ _ _ (by rw[jp];omega),if_pos oo,show off+k-off=k by omega]
  .rw[vh _ _ _ _ _ e,b oo];by_cases a:off<=j/\j<off+k
   .rw[if_pos a,if_pos oo]
   .rw[if_neg a,if_neg oo]
theorem Bb(x:Qv)(j:Nat):mE x j=UInt8.ofNat (x.toNat/256^j%256):=by
 unfold mE;rw[BitVec.toNat_ushiftRight,Nat.shiftRight_eq_div_pow,Nat.pow_mul,show (2:Nat)^8=256 by decide];apply UInt8.toNat_inj.1
 rw[UInt8.toNat_ofNat',UInt8.toNat_ofNat'];omega
theorem Dw{f g:Nat->Nat}:∀k,(∀i,i<k->f i=g i)->iC f k=iC g k
 |0,_=>rfl
 |k+1,h=>by rw[iC,iC,Dw k (λi a=>h i (by omega)),h k (by omega)]
theorem EC(l:List Nat){s t:Nat->Nat}:∀k,(∀i,i<k->s i=t i)->eD l s k=eD l t k
 |0,_=>rfl
 |k+1,h=>by rw[eD,eD,EC l k (λi a=>h i (by omega)),h k (by omega)]
theorem abz(M:Qu)(b:M.length=64)(i:Nat)(d:i<32):(((⟨M.toArray⟩:ByteArray).extract 0 32).data.toList.getD i 0)=M.getD i 0:=by
 have c:(⟨M.toArray⟩:ByteArray).size=64:=by show M.toArray.size=64;rw[Qj,b]
 have a:i<((⟨M.toArray⟩:ByteArray).extract 0 32).size:=by rw[Qx,c];omega
 rw[<-gh _ _ a];have h2:=gh (⟨M.toArray⟩:ByteArray) i oo;rw[show (⟨M.toArray⟩:ByteArray).data.toList=M from rfl]at h2;rw[<-h2];simp[Qy]
def Bo:Prop:= ∀(f:Nat->UInt8) (s:ByteArray),s.size%16=0->s.size<=900000->sK (λi=>(f i).toNat) (λj i=>byN s (16*j+i)) (s.size/16)=qI f s
theorem NR(n:Nat)(h:n<=1000000):dj n 8=qT n:=by
 apply List.ext_getElem?
 intro j;by_cases b:j<8
 .have a:j<(dj n 8).length:=by rw[cJ];omega
  have h2:j<(qT n).length:=by rw[uL];omega
  have e:(dj n 8).getD j 0=(qT n).getD j 0:=by
   unfold qT;rw[Db _ _ _ b,Da _ _ _ _ _ (by show 0+8<=8;omega),if_pos oo,Nat.sub_zero,Bb,BitVec.toNat_ofNat,show n%2^64=n from Nat.mod_eq_of_lt oo]
  rw[Qk,Qk,Qi a,Qi h2]at e;rw[Qi a,Qi h2];exact congrArg some e
 .rw[Qm (by rw[cJ];omega),Qm (by rw[uL];omega)]
theorem Te{f g:Nat->Nat}(h:∀i,i<32->f i=g i)(D:Nat->Nat->Nat)(n:Nat):sK f D n=sK g D n:=by
 unfold sK kC;have a:iC (lu f) 16=iC (lu g) 16:=Dw 16 (λi b=>by unfold lu;rw[h i oo]);rw[a,EC _ 16 (λi b=>h (16+i) oo)]
theorem Zm(a6:Bo)(y t f j:Qb)(w:World)(hk:y.size=32)(hn:t.size=12)(ht:f.size<=100000)(hc:j.size<=100000):
  Rw 150 #[Qa y,Qa t,Qa f,Qa j] w (Qa (fW y t f j)):=by
 have Q:Hid (Rv 196 #[Qa y,Qc Qz 0,Qa t] (Qa ⟨(fm y 0 t).toArray⟩)):=λb=>SW y t 0 b hk hn oo
 have S:=Qr λb=>(OC f b oo).mono λe w' ⟨I,h2⟩=>⟨I,by rw[h2];exact Qq _ _⟩
 have T:=Qr λb=>(OC j b oo).mono λe w' ⟨I,h2⟩=>⟨I,by rw[h2];exact Qq _ _⟩
 have O:Hid (Rv 75 #[Qc Qz f.size,Qc Qz 8] (Qa (cE f))):=λb=>by
  have:=mN f.size 8 f.size 8 rfl rfl oo oo b;rw[NR _ oo]at this;exact this
 have P:Hid (Rv 75 #[Qc Qz j.size,Qc Qz 8] (Qa (cE j))):=λb=>by
  have:=mN j.size 8 j.size 8 rfl rfl oo oo b;rw[NR _ oo]at this;exact this
 have G:(fm y 0 t).length=64:=uz _ _ _;have a1:=DP f j;have bb:=B7 f j;have E:Hid (Rv 197 #[Qa ((⟨(fm y 0 t).toArray⟩:ByteArray).extract 0 32),Qa (bS f++bS j++cE f++cE j)] (Qa (fW y t f j))):=λb=>by
  have h:=Yv ((⟨(fm y 0 t).toArray⟩:ByteArray).extract 0 32) (pJ f j) ((pJ f j).size/16) b (by rw[Qx];show min 32 (fm y 0 t).toArray.size-0=32;rw[Qj,G];rfl) oo oo;rw[Te (g:=λi=>((λi=>(fm y 0 t).getD i 0) i).toNat) (λi hi=>by
   exact congrArg UInt8.toNat (abz _ G i hi)),a6 (λi=>(fm y 0 t).getD i 0) (pJ f j) a1 oo]at h
  exact h
 have a2:=o7 f;have a3:=o7 j;have a4:=mT f;have a5:=mT j;have a9:cj f.size<=15:=by unfold cj;omega
 have ba:cj j.size<=15:=by unfold cj;omega
 generalize bS f=A at S E a2;generalize bS j=B at T E a3;generalize cE f=C at O E a4;generalize cE j=D at P E a5;have a7:=bB A B oo;have W:=bB (A++B) C (by rw[Qt];omega);have X:=bB (A++B++C) D (by rw[Qt,Qt];omega);generalize A++B++C++D=N at X E;generalize A++B++C=L at W X;generalize A++B=J at a7 W;have hM:(⟨(fm y 0 t).toArray⟩:ByteArray).size=64:=by show(fm y 0 t).toArray.size=64;rw[Qj,G]
 generalize (⟨(fm y 0 t).toArray⟩:ByteArray)=M at Q E hM;generalize fW y t f j=R at E|-;clear a2 a3 a4 a5 a9 ba a1 bb G;go_enter Tryz.func150,Tryz.ntmps150;go_wp2_with fail;refine gv Q λw1 k1=>?_
 have a:=WD.start.keep k1;clear k1;have bd:∀b,(Instr.sliceAt 9 (Qa M) none (some (Qc Qz 32)) none).run Tryz.prog b=.ok (Qa (M.extract 0 32)) b:=λb=>by go_simp
 generalize M.extract 0 32=K3 at bd E;go_wp2_with fail;refine rgS [] a.drew (λrd F=>?_);clear a;refine ac 0 13 (v:=Qa M) F ?_ ?_
 .exact λb _=>rfl
 refine ae 1 14 F ?_;refine ac 2 15 (v:=Qa f) F ?_ ?_
 .exact λb _=>rfl
 simp only[qQ];refine ac 4 17 (v:=Qa j) F ?_ ?_
 .exact λb _=>rfl
 refine ac 7 20 (v:=Qa f) F ?_ ?_
 .exact λb _=>rfl
 refine ae 8 21 F ?_;simp only[qQ];refine ac 11 24 (v:=Qa j) F ?_ ?_
 .exact λb _=>rfl
 refine ae 12 25 F ?_;try simp only[qQ]
 change bP _ _ _ _ _ _ 9 #[true,true,true,false,true,false,false,true,true,false,false,true,true,false,false,false,false] _ _;refine wD (R:=λd u w'=>(d 3=true->u 16=Qa A)/\(d 5=true->u 18=Qa B)/\(d 6=true->u 19=Qa J)/\(d 9=true->u 22=Qa C)/\(d 10=true->u 23=Qa L)/\(d 13=true->u 26=Qa D)/\(d 14=true->u 27=Qa N)/\(d 15=true->u 28=Qa R)/\(d 16=true->u 8=Qa R)/\WD w (w.heap.size) [] w') [16,18,19,22,23,26,27,28,8] [3,5,6,9,10,13,14,15,16] #[true,true,true,true,true,true,true,true,true,true,true,true,true,true,true,true,true] kr kr kr ⟨λh=>Qo h,λh=>Qo h,λh=>Qo h,λh=>Qo h,λh=>Qo h,λh=>Qo h,λh=>Qo h,λh=>Qo h,λh=>Qo h,F⟩ ?U ?Y;case U=>
  refine Qp rfl ?sr3 (Qp rfl ?sr5 (Qp rfl ?sr6 (Qp rfl ?sr9 (Qp rfl ?sr10 (Qp rfl ?sr13 (Qp rfl ?sr14 (Qp rfl ?sr15 (Qp rfl ?V StepsU.nil))))))));case sr3=>
   rintro d u b ⟨o,p,q,r,k,l,m,n,s,a⟩ c K x;simp only[bK,qF,qQ];go_simp;go_wp2_with (go_at_call 198;refine gv S λH z=>?_);refine x.out (upV u 16 (Qa A)) _ (a.keep z) ⟨λ_=>rfl,λh=>p h,λh=>q h,λh=>r h,λh=>k h,λh=>l h,λh=>m h,λh=>n h,λh=>s h,a.keep z⟩ _ ?_;simp only[bK,qF,qQ,upV,reduceIte,Qn]
  case sr5=>
   rintro d u b ⟨o,p,q,r,k,l,m,n,s,a⟩ c K x;simp only[bK,qF,qQ];go_simp;go_wp2_with (go_at_call 198;refine gv T λH z=>?_);refine x.out (upV u 18 (Qa B)) _ (a.keep z) ⟨λh=>o h,λ_=>rfl,λh=>q h,λh=>r h,λh=>k h,λh=>l h,λh=>m h,λh=>n h,λh=>s h,a.keep z⟩ _ ?_;simp only[bK,qF,qQ,upV,reduceIte,Qn]
  case sr6=>
   rintro d u b ⟨o,p,q,r,k,l,m,n,s,a⟩ c K x;have e3:=o (c 3 kr);have e5:=p (c 5 kr);simp only[bK,qF,qQ,e3,e5];go_simp;refine x.out (upV u 19 (Qa J)) _ a ⟨λh=>o h,λh=>p h,λ_=>rfl,λh=>r h,λh=>k h,λh=>l h,λh=>m h,λh=>n h,λh=>s h,a⟩ _ ?_;simp only[bK,qF,qQ,upV,reduceIte,Qn,e3,e5]
  case sr9=>
   rintro d u b ⟨o,p,q,r,k,l,m,n,s,a⟩ c K x;simp only[bK,qF,qQ];go_simp;go_wp2_with (go_at_call 75;refine gv O λH z=>?_);refine x.out (upV u 22 (Qa C)) _ (a.keep z) ⟨λh=>o h,λh=>p h,λh=>q h,λ_=>rfl,λh=>k h,λh=>l h,λh=>m h,λh=>n h,λh=>s h,a.keep z⟩ _ ?_;simp only[bK,qF,qQ,upV,reduceIte,Qn]
  case sr10=>
   rintro d u b ⟨o,p,q,r,k,l,m,n,s,a⟩ c K x;have e6:=q (c 6 kr);have e9:=r (c 9 kr);simp only[bK,qF,qQ,e6,e9];go_simp;refine x.out (upV u 23 (Qa L)) _ a ⟨λh=>o h,λh=>p h,λh=>q h,λh=>r h,λ_=>rfl,λh=>l h,λh=>m h,λh=>n h,λh=>s h,a⟩ _ ?_;simp only[bK,qF,qQ,upV,reduceIte,Qn,e6,e9]
  case sr13=>
   rintro d u b ⟨o,p,q,r,k,l,m,n,s,a⟩ c K x;simp only[bK,qF,qQ];go_simp;go_wp2_with (go_at_call 75;refine gv P λH z=>?_);refine x.out (upV u 26 (Qa D)) _ (a.keep z) ⟨λh=>o h,λh=>p h,λh=>q h,λh=>r h,λh=>k h,λ_=>rfl,λh=>m h,λh=>n h,λh=>s h,a.keep z⟩ _ ?_;simp only[bK,qF,qQ,upV,reduceIte,Qn]
  case sr14=>
   rintro d u b ⟨o,p,q,r,k,l,m,n,s,a⟩ c K x;have Z:=k (c 10 kr);have ab:=l (c 13 kr);simp only[bK,qF,qQ,Z,ab];go_simp;refine x.out (upV u 27 (Qa N)) _ a ⟨λh=>o h,λh=>p h,λh=>q h,λh=>r h,λh=>k h,λh=>l h,λ_=>rfl,λh=>n h,λh=>s h,a⟩ _ ?_;simp only[bK,qF,qQ,upV,reduceIte,Qn,Z,ab]
  case sr15=>
   rintro d u b ⟨o,p,q,r,k,l,m,n,s,a⟩ c K x;have ad:=m (c 14 kr);simp only[bK,qF,qQ,ad];go_simp;go_wp2_with (go_at_call 197;refine gv E λH z=>?_);refine x.out (upV u 28 (Qa R)) _ (a.keep z) ⟨λh=>o h,λh=>p h,λh=>q h,λh=>r h,λh=>k h,λh=>l h,λh=>m h,λ_=>rfl,λh=>s h,a.keep z⟩ _ ?_;simp only[bK,qF,qQ,upV,reduceIte,Qn,ad]
  case V=>
   rintro d u b ⟨o,p,q,r,k,l,m,n,s,a⟩ c K x;have ag:=n (c 15 kr);simp only[bK,qF,qQ,ag];go_simp;refine x.out (upV u 8 (Qa R)) _ a ⟨λh=>o h,λh=>p h,λh=>q h,λh=>r h,λh=>k h,λh=>l h,λh=>m h,λh=>n h,λ_=>rfl,a⟩ _ ?_;simp only[bK,qF,qQ,upV,reduceIte,Qn,ag]
 case Y=>
  rintro n' d u rx ⟨o,p,q,r,k,l,m,n,s,a⟩ c;have ah:=o (c 3 rfl);have an:=p (c 5 rfl);have ao:=q (c 6 rfl);have ap:=r (c 9 rfl);have ax:=k (c 10 rfl);have ay:=l (c 13 rfl);have az:=m (c 14 rfl);have a0:=n (c 15 rfl);have e8:=s (c 16 rfl);simp only[bK,qF,qQ,ah,an,ao,ap,ax,ay,az,a0,e8];clear c o p q r k l m n s ah an ao ap ax ay az a0 e8;change bP _ _ _ _ _ _ (n'+0) _ _ _;refine aC ?_;have a8:=a.below;go_wp2;go_ret;exact⟨rfl,a8⟩
theorem U6{a b:Qb}(h:¬a=b):(a.toList==b.toList)=false:=by
 cases d:a.toList==b.toList with
 |false=>rfl
 |true=>
  have c:=eq_of_beq d;rw[ByteArray.toList_eq,ByteArray.toList_eq]at c;exact absurd (Im c) h
theorem S6(v:Bo)(a b c data:Qb)(w:World):
  Rw 95 #[Qa a,Qa b,Qa c,Qa data] w (.tuple #[Qa (ep a b c data).1,Qc Qz (ep a b c data).2]):=by
 by_cases h:a.size=32/\b.size=12/\c.size<=12000/\data.size<=12000
 .have d:ep a b c data=(du a b c data,0):=by unfold ep;rw[if_pos h]
  rw[d];obtain⟨i,h2,t,m⟩:=h;have o:=Qr λn=>SP a b data n i h2 oo
  have E:=rK a b data;have j:Hid (Rv 150 #[Qa a,Qa b,Qa c,Qa (bQ a b data)] (Qa (fW a b c (bQ a b data)))):=λn=>Zm v a b c _ n i h2 oo oo
  have D:=uy a b c (bQ a b data);have e:Hid (du a b c data=bQ a b data++fW a b c (bQ a b data)):=rfl;generalize du a b c data=R at e|-;generalize fW a b c (bQ a b data)=Z at j D e;generalize bQ a b data=Y at o j E e;have x:=bB Y Z oo;rw[<-e.out]at x;clear d;have f:((a.size:Int) !=32)=false:=by rw[bne_eq_false_iff_eq];omega
  have g:(a.size:Int)=32:=oo
  have k:((b.size:Int) !=12)=false:=by rw[bne_eq_false_iff_eq];omega
  have l:(b.size:Int)=12:=oo
  have p:decide ((c.size:Int)>12000)=false:=decide_eq_false oo;have q:decide ((12000:Int)<(c.size:Int))=false:=decide_eq_false oo;have r:decide (12000<c.size)=false:=decide_eq_false oo;have s:¬12000<c.size:=oo
  have y:decide ((data.size:Int)>12000)=false:=decide_eq_false oo;have z:decide ((12000:Int)<(data.size:Int))=false:=decide_eq_false oo;have A:decide (12000<data.size)=false:=decide_eq_false oo;have B:¬12000<data.size:=oo
  go_enter Qg,Qf;go_wp2_with fail;refine gv o λF u=>?_
  go_wp2_with fail;refine gv j λG C=>?_
  go_wp2;go_ret2;exact⟨rfl,u.trans (C.mono u.size)⟩
 .have d:ep a b c data=(⟨#[]⟩,1):=by unfold ep;rw[if_neg h]
  rw[d];clear d;by_cases i:a.size=32
  .by_cases h2:b.size=12
   .by_cases t:c.size<=12000
    .have m:¬data.size<=12000:=λm=>h ⟨i,h2,t,m⟩
     replace h:=Qh trivial;have f:((a.size:Int) !=32)=false:=by rw[bne_eq_false_iff_eq];omega
     have g:(a.size:Int)=32:=oo
     have k:((b.size:Int) !=12)=false:=by rw[bne_eq_false_iff_eq];omega
     have l:(b.size:Int)=12:=oo
     have p:decide ((c.size:Int)>12000)=false:=decide_eq_false oo;have q:decide ((12000:Int)<(c.size:Int))=false:=decide_eq_false oo;have r:decide (12000<c.size)=false:=decide_eq_false oo;have s:¬12000<c.size:=oo
     have y:decide ((data.size:Int)>12000)=true:=decide_eq_true oo;have z:decide ((12000:Int)<(data.size:Int))=true:=decide_eq_true oo;have A:decide (12000<data.size)=true:=decide_eq_true oo;have B:12000<data.size:=oo
     go_enter Qg,Qf;go_wp2;go_ret2;exact⟨rfl,Qq _ _⟩
    .replace h:=Qh trivial;have f:((a.size:Int) !=32)=false:=by rw[bne_eq_false_iff_eq];omega
     have g:(a.size:Int)=32:=oo
     have k:((b.size:Int) !=12)=false:=by rw[bne_eq_false_iff_eq];omega
     have l:(b.size:Int)=12:=oo
     have p:decide ((c.size:Int)>12000)=true:=decide_eq_true oo;have q:decide ((12000:Int)<(c.size:Int))=true:=decide_eq_true oo;have r:decide (12000<c.size)=true:=decide_eq_true oo;have s:12000<c.size:=oo
     go_enter Qg,Qf;go_wp2;go_ret2;exact⟨rfl,Qq _ _⟩
   .replace h:=Qh trivial;have f:((a.size:Int) !=32)=false:=by rw[bne_eq_false_iff_eq];omega
    have g:(a.size:Int)=32:=oo
    have k:((b.size:Int) !=12)=true:=by rw[bne_iff_ne];omega
    have l:¬(b.size:Int)=12:=oo
    go_enter Qg,Qf;go_wp2;go_ret2;exact⟨rfl,Qq _ _⟩
  .replace h:=Qh trivial;have f:((a.size:Int) !=32)=true:=by rw[bne_iff_ne];omega
   have g:¬(a.size:Int)=32:=oo
   go_enter Qg,Qf;go_wp2;go_ret2;exact⟨rfl,Qq _ _⟩
theorem Ey(G:Bo)(b d c a:Qb)(w:World)(O:a.size<=140737488351232):
  Rw 97 #[Qa b,Qa d,Qa c,Qa a] w (.tuple #[Qa (bI b d c a).1,Qc Qz (bI b d c a).2]):=by
 by_cases h:b.size=32/\d.size=12/\c.size<=12000/\16<=a.size/\a.size<=12016
 .have g:bI b d c a=if cG b d c a then(bQ b d (ev a),0)else (⟨#[]⟩,3):=by unfold bI;rw[if_pos h]
  rw[g];obtain⟨p,h2,B,C,z⟩:=h;have sB:=Fl a;have t:Hid (Rv 149 #[Qa b,Qa d,Qa (ev a)] (Qa (bQ b d (ev a)))):=λA=>SP b d _ A p h2 oo
  have l:Hid (Rv 150 #[Qa b,Qa d,Qa c,Qa (ev a)] (Qa (fW b d c (ev a)))):=λA=>Zm G b d c _ A p h2 oo oo
  have e:Hid (cG b d c a=decide (uX a=fW b d c (ev a))):=rfl;have q:ev a=a.extract 0 (a.size-16):=rfl;have r:uX a=a.extract (a.size-16) a.size:=rfl;generalize cG b d c a=E at e;generalize fW b d c (ev a)=Z at l e;generalize bQ b d (ev a)=Y at t;generalize uX a=TL at e r;generalize ev a=N at t l q;generalize D:a.size-16=m at q r;have H:Qz.wrap ((a.size:Int)-16)=(m:Int):=by rw[QA];omega
  have R:(a.size:Int)-16=(m:Int):=oo
  have F:decide ((m:Int)<0)=false:=decide_eq_false oo;have J:decide ((m:Int)>12000)=false:=decide_eq_false oo;have K:decide ((12000:Int)<(m:Int))=false:=decide_eq_false oo;have W:decide (12000<m)=false:=decide_eq_false oo;have X:¬12000<m:=oo
  have S:(m:Int)<=(a.size:Int):=oo
  have T:m<=a.size:=oo
  replace D:=Qh D;replace r:=r.symm;replace q:=q.symm;clear g;have j:((b.size:Int) !=32)=false:=by rw[bne_eq_false_iff_eq];omega
  have k:(b.size:Int)=32:=oo
  have n:((d.size:Int) !=12)=false:=by rw[bne_eq_false_iff_eq];omega
  have o:(d.size:Int)=12:=oo
  have u:decide ((c.size:Int)>12000)=false:=decide_eq_false oo;have v:decide ((12000:Int)<(c.size:Int))=false:=decide_eq_false oo;have x:decide (12000<c.size)=false:=decide_eq_false oo;have y:¬12000<c.size:=oo
  by_cases f:TL=Z
  .have i:E=true:=by rw[e.out];exact decide_eq_true f
   subst f;rw[i,if_pos rfl];clear i e;go_enter Qe,Qd;go_wp2_with fail;refine gv l λM s=>?_
   go_wp2_with fail;refine gv t λw2 I=>?_
   go_wp2;go_ret2;exact⟨rfl,s.trans (I.mono s.size)⟩
  .have i:E=false:=by rw[e.out];exact decide_eq_false f
   rw[i,if_neg dd];have P:=U6 (λh:Z=TL=>f h.symm);have Q:=U6 f;replace f:=Qh f;clear i e;go_enter Qe,Qd;go_wp2_with fail;refine gv l λM s=>?_
   go_wp2;go_ret2;exact⟨rfl,s⟩
 .have g:bI b d c a=(⟨#[]⟩,1):=by unfold bI;rw[if_neg h]
  rw[g];clear g;have H:Qz.wrap ((a.size:Int)-16)=(a.size:Int)-16:=by rw[QA];omega
  by_cases p:b.size=32
  .by_cases h2:d.size=12
   .by_cases B:c.size<=12000
    .by_cases C:16<=a.size
     .have z:¬a.size<=12016:=λz=>h ⟨p,h2,B,C,z⟩
      replace h:=Qh trivial;have j:((b.size:Int) !=32)=false:=by rw[bne_eq_false_iff_eq];omega
      have k:(b.size:Int)=32:=oo
      have n:((d.size:Int) !=12)=false:=by rw[bne_eq_false_iff_eq];omega
      have o:(d.size:Int)=12:=oo
      have u:decide ((c.size:Int)>12000)=false:=decide_eq_false oo;have v:decide ((12000:Int)<(c.size:Int))=false:=decide_eq_false oo;have x:decide (12000<c.size)=false:=decide_eq_false oo;have y:¬12000<c.size:=oo
      have F:decide ((a.size:Int)-16<0)=false:=decide_eq_false oo;have J:decide ((a.size:Int)-16>12000)=true:=decide_eq_true oo;have K:decide ((12000:Int)<(a.size:Int)-16)=true:=decide_eq_true oo;have n5:(12000:Int)<(a.size:Int)-16:=oo
      have L:¬(a.size:Int)-16<0:=oo
      go_enter Qe,Qd;go_wp2;go_ret2;exact⟨rfl,Qq _ _⟩
     .replace h:=Qh trivial;have j:((b.size:Int) !=32)=false:=by rw[bne_eq_false_iff_eq];omega
      have k:(b.size:Int)=32:=oo
      have n:((d.size:Int) !=12)=false:=by rw[bne_eq_false_iff_eq];omega
      have o:(d.size:Int)=12:=oo
      have u:decide ((c.size:Int)>12000)=false:=decide_eq_false oo;have v:decide ((12000:Int)<(c.size:Int))=false:=decide_eq_false oo;have x:decide (12000<c.size)=false:=decide_eq_false oo;have y:¬12000<c.size:=oo
      have F:decide ((a.size:Int)-16<0)=true:=decide_eq_true oo;have L:(a.size:Int)-16<0:=oo
      go_enter Qe,Qd;go_wp2;go_ret2;exact⟨rfl,Qq _ _⟩
    .replace h:=Qh trivial;have j:((b.size:Int) !=32)=false:=by rw[bne_eq_false_iff_eq];omega
     have k:(b.size:Int)=32:=oo
     have n:((d.size:Int) !=12)=false:=by rw[bne_eq_false_iff_eq];omega
     have o:(d.size:Int)=12:=oo
     have u:decide ((c.size:Int)>12000)=true:=decide_eq_true oo;have v:decide ((12000:Int)<(c.size:Int))=true:=decide_eq_true oo;have x:decide (12000<c.size)=true:=decide_eq_true oo;have y:12000<c.size:=oo
     go_enter Qe,Qd;go_wp2;go_ret2;exact⟨rfl,Qq _ _⟩
   .replace h:=Qh trivial;have j:((b.size:Int) !=32)=false:=by rw[bne_eq_false_iff_eq];omega
    have k:(b.size:Int)=32:=oo
    have n:((d.size:Int) !=12)=true:=by rw[bne_iff_ne];omega
    have o:¬(d.size:Int)=12:=oo
    go_enter Qe,Qd;go_wp2;go_ret2;exact⟨rfl,Qq _ _⟩
  .replace h:=Qh trivial;have j:((b.size:Int) !=32)=true:=by rw[bne_iff_ne];omega
   have k:¬(b.size:Int)=32:=oo
   go_enter Qe,Qd;go_wp2;go_ret2;exact⟨rfl,Qq _ _⟩
end Go.Proofs.YtclpbaokadfhhaaGreatDoor
