import Derived.Test.YtclpbaokadfhhaaGreatDoorYj
set_option maxRecDepth 100000
set_option maxHeartbeats 20000000
open Go.Value renaming agg->Qa,string->Qc,int->Qd
open Go.IntKind renaming u8->Qe,wrap_u8->Qf,i64->Qg
open Int renaming tmod_eq_emod_of_nonneg->Qi,tmod->Qj
open UInt8 renaming toNat_mod->Qk
open Go.Proofs.Tryz renaming underlying59->Qm,prog->Qn
namespace Go.Proofs.YtclpbaokadfhhaaGreatDoor
open Go.RowKit
def mH(s:ByteArray)(i:Nat):Bool:=byt s (i/8)/2^(i%8)%2==1
def bU(s:ByteArray)(p:Rp_Pn):Rp_Pn:=gY (mH s) p fH 256 256
theorem Rp_start_fine:Rp_Fine su:=⟨f8,lm,lm,f8⟩
theorem yn(f:Nat->Bool)(p:Rp_Pn)(b:List Int)(m:Nat)(c:Rp_Fine p)(ht:Fd_Good b):∀k,Rp_Fine (gY f p b m k)
 |0=>Rp_start_fine
 |k+1=>by
  have a:=yn f p b m c ht k;rw[gY];split
  .exact oC (oC a a ht) c ht
  .exact oC a a ht
theorem rf(s:Qb)(p:Rp_Pn)(a:Rp_Fine p):Rp_Fine (bU s p):=yn _ _ _ _ a n8 _
theorem yM(s:Qb)(p:Rp_Pn)(hs:s.size=32)(i:Rp_Fine p)(w:World):
  Rw 37 #[Qc s,Qa (Ns (bc p))] w (Qa (Ns (bc (bU s p)))):=by
 have hz:=oe;have ax:=sq;have y:Hid (bc (bU s p)=bc (gY (mH s) p fH 256 256)):=rfl;have B:=Qr (Hi)
 have t:Hid (Rv 80 #[Qa (Ns fA),Qa (Ns fA)] (Qa (Ns fH))):=λl=>oq _ _ fe fe l
 have O:(Ns fA).size=16:=by rw[jn,fe.1]
 have g:=Qh n8;generalize fA=DD at B t O;have u:=Qr (mL 0)
 have x:=Qr (mL 1)
 have m:Hid (∀l:World,(Instr.build 61 #[(0,Qa (Ns (am 0))),(1,Qa (Ns (am 1))),(2,Qa (Ns (am 1))),(3,Qa (Ns (am 0)))]).run Qn l=.ok (Qa (Ns (bc su))) l):=tv _ _ _ _ rfl rfl rfl rfl;have ah:(Ns (bc su)).size=64:=by rw[jn,Rp_start_fine.row]
 have ao:Hid (∀f p tw,gY f p tw 256 0=su):=λ_ _ _=>rfl
 generalize M:bc su=ST at m ah;replace M:=Qh M;generalize am 0=S at u m;generalize am 1=T at x m;generalize bc (bU s p)=G at y|-;have R:Hid (∀k,gY (mH s) p fH 256 (k+1)=if mH s (256-1-k)then iO (iO (gY (mH s) p fH 256 k) (gY (mH s) p fH 256 k) fH) p fH else iO (gY (mH s) p fH 256 k) (gY (mH s) p fH 256 k) fH):=λk=>rfl
 have E:Hid (∀k,Rp_Fine (gY (mH s) p fH 256 k)):=yn _ _ _ _ i n8;generalize fH=c at t g y R E;have Q:(Ns c).size=16:=by rw[jn,g.out.1]
 replace i:=Qh i;have ag:(Ns (bc p)).size=64:=by rw[jn,i.out.row]
 have sZ:=rg;generalize Rp_Z64=o at ax sZ;have an:=Nz sZ;have a:WD w w.heap.size [(w.heap.size+1,Ns o,61),(w.heap.size,Ns (bc p),61)] ((w.alloc (.cells (Ns (bc p)) 61)).alloc (.cells (Ns o) 61)):=by
  have h1:=(WD.start (w:=w)).new (Ns (bc p)) 61;have h2:=h1.new (Ns o) 61;rw[kK]at h2;exact h2
 go_enter Tryz.func37,Tryz.ntmps37;go_wp2_with fail;generalize (w.alloc (.cells (Ns (bc p)) 61)).alloc (.cells (Ns o) 61)=w1 at a|-;refine gvW a B (λx1 a=>?_);go_wp2_with (first
  |(refine asW a twN O rfl (aK _) (λv2 a=>?_);generalize x1.heap.size=q5 at a|-)
  |(refine ldW 0 a twN O ?_))
 refine gvW a t (λx3 a=>?_);go_wp2_with (first
  |(refine asW a twN Q rfl (aK _) (λv4 a=>?_);generalize x3.heap.size=q6 at a|-))
 refine gvW a u (λx5 a=>?_);go_wp2_with fail;refine gvW a x (λx6 a=>?_);go_wp2_with fail;refine gvW a x (λx7 a=>?_);go_wp2_with fail;refine gvW a u (λx8 a=>?_);go_wp2_with (first
  |(refine iA rfl 61 _ rfl [(0,Qa (Ns S)),(1,Qa (Ns T)),(2,Qa (Ns T)),(3,Qa (Ns S))] rfl _ (m.out _) ?_)
  |(refine asW a twP ah an (aK _) (λv9 a=>?_);generalize x8.heap.size=q7 at a|-))
 clear m B t u x;have hq:=Qh trivial;go_loopw [8] (λq wr=> ∃k:Nat,k<=256/\q=Qd Qg (255-(k:Int))/\WD w (w.heap.size) [(q7,Ns (bc (gY (mH s) p c 256 k)),61),(q6,Ns c,59),(q5,Ns DD,59),(w.heap.size+1,Ns o,61),(w.heap.size,Ns (bc p),61)] wr) (λq _=>(intOf q+1).toNat)
 case atStart=>exact⟨0,oo,rfl,by rw[ao.out,M.out];exact a⟩
 case round=>
  clear a;obtain⟨k,hk,rfl,a⟩:=hrel;by_cases ay:k<256
  .have b:=R.out k;have d:=E.out k;have e:=oC d d g.out;have r:=oC e i.out g.out;have hj:(255:Int)-(k:Int)=((256-1-k:Nat):Int):=oo
   rw[hj];have H:=Qh λl=>Fx s (256-1-k) l oo oo
   have Z:mH s (256-1-k)=(byt s ((256-1-k)/8)/2^((256-1-k)%8)%2==1):=rfl;rw[Z]at b;clear Z;generalize byt s ((256-1-k)/8)/2^((256-1-k)%8)%2=I at H b;have ap:=Qh ((by omega:256-1-k+k=255));generalize 256-1-k=j at hj H ap|-;have i0:(0:Int)<=(j:Int):=oo
   have j1:(j:Int)<=255:=oo
   generalize hC:gY (mH s) p c 256 k=C at b d e r a;clear hC;have z:=Qr (Uc C C c d d g.out)
   have N:(Ns (bc C)).size=64:=by rw[jn,d.row]
   generalize iO C C c=D at b z e r;have n:=Qr (Uc D p c e i.out g.out)
   generalize iO D p c=F at b n r;have A:(Ns (bc D)).size=64:=by rw[jn,e.row]
   have ad:(Ns (bc F)).size=64:=by rw[jn,r.row]
   clear d e r;replace b:=Qh b;generalize bc C=CC at a z N;generalize K:bc D=D1 at z n A;replace K:=Qh K;generalize L:bc F=F1 at n ad;replace L:=Qh L;generalize X:Ns (bc p)=PA at a n ag;replace X:=Qh X;have az:=hq;go_wp2_with (first
    |(refine ldW 0 a twP N ?_)
    |(refine ldW 1 a twN Q ?_))
   refine gvW a z (λa4 a=>?_);have a0:=hq;go_wp2_with (first
    |(refine stW 0 a twP A N (aK _) (λa1 a=>?_)))
   refine mo (H.out _) λxb ab=>?_;rw[ab];clear ab xb;by_cases h:I=1
   .have J:(I==1)=true:=by rw[beq_iff_eq];exact h
    rw[if_pos J]at b;replace h:=Qh h;go_wp2_with (first
     |(refine ldW 0 a twP A ?_)
     |(refine ldW 4 a twP ag ?_)
     |(refine ldW 1 a twN Q ?_))
    refine gvW a n (λa5 a=>?_);go_wp2_with (first
     |(refine stW 0 a twP ad A (aK _) (λa2 a=>?_)))
    go_roundw
    case rel=>
     refine⟨k+1,oo,gn,?_⟩;rw[b.out,L.out];exact a
    case measure=>simp[intOf]
   .have J:(I==1)=false:=by rw[beq_eq_false_iff_ne];exact h
    rw[if_neg (by rw[J];decide)]at b;replace h:=Qh h;go_wp2_with fail;go_roundw
    case rel=>
     refine⟨k+1,oo,gn,?_⟩;rw[b.out,K.out];exact a
    case measure=>simp[intOf]
  .obtain rfl:k=256:=oo
   rw[show (255:Int)-((256:Nat):Int)= -1 by omega];rw[<-show G=bc (gY (mH s) p c 256 256)from y.out]at a;have W:=E.out 256;have P:(Ns G).size=64:=by rw[y.out,jn,W.row]
   clear W;go_wp2_with (first
    |(refine ldW 0 a twP P ?_)
    |(refine stW 3 a twP P an (aK _) (λa3 a=>?_)))
   refine bodyPost_ret (v:=Qa (Ns G)) ?_ rfl ⟨rfl,a.below⟩;exact rr t61 rfl rfl (a.get 3 rfl) P
def oO(l:List UInt8):List UInt8:=(l.set 0 (l.getD 0 0-l.getD 0 0%8)).set 31 (l.getD 31 0%64+64)
theorem vS(l:Qu):(oO l).length=l.length:=by simp[oO]
theorem Wf(x:UInt8):((x.toNat:Int)-(x.toNat:Int)%8)=((x-x%8).toNat:Int):=by
 have h:=x.toNat_lt;rw[UInt8.toNat_sub_of_le _ _ (UInt8.le_iff_toNat_le.2 (by rw[Qk];exact Nat.mod_le _ _)),Qk];show _=((x.toNat-x.toNat%8:Nat):Int)
 omega
theorem We(x:UInt8):((x.toNat:Int)%64+64)=((x%64+64).toNat:Int):=by
 have h:=x.toNat_lt;rw[UInt8.toNat_add,Qk];show _=(((x.toNat%64+64)%256:Nat):Int)
 omega
theorem Ew(s:Qb)(w:World)(B:s.size=32):
  Rw 38 #[Qc s] w (Qc ⟨(oO s.data.toList).toArray⟩):=by
 obtain⟨cap,D,I,f,x⟩:=bytesOf s w.heap.size w nR;replace f:=f.at;have k:s.data.toList.length=32:=by rw[<-B];simp
 rw[B]at I;generalize A:s.data.toList=l at f k;replace A:=Qh A;have j:Hid ((l.set 0 (l.getD 0 0-l.getD 0 0%8)).set 31 (l.getD 31 0%64+64)=oO l):=rfl;have m:(l.set 0 (l.getD 0 0-l.getD 0 0%8)).getD 31 0=l.getD 31 0:=by simp[List.getD]
 have y:l.getD 0 0=l.getD 0 0:=rfl;have r:=Wf (l.getD 0 0);have t:=We (l.getD 31 0);have u0:=(l.getD 0 0).toNat_lt;have u1:=(l.getD 31 0).toNat_lt;have o:=vS l;rw[k]at o;generalize oO l=R at j o|-;generalize l.getD 31 0%64+64=i at j t;generalize l.getD 0 0-l.getD 0 0%8=c at j m r;generalize l.getD 31 0=E at m t u1;generalize C:l.getD 0 0=h at y r u0;clear y;go_enter Tryz.func38,Tryz.ntmps38;go_wp2_with fail;have T:=c.toNat_lt;have W:=i.toNat_lt;have P:Qe.wrap (c.toNat:Int)=(c.toNat:Int):=by rw[Qf];omega
 have Q:Qe.wrap (i.toNat:Int)=(i.toNat:Int):=by rw[Qf];omega
 have M:Qj (h.toNat:Int) 8=(h.toNat:Int)%8:=Qi oo;have N:Qj (E.toNat:Int) 64=(E.toNat:Int)%64:=Qi oo;refine bu (S:=λb=>OwnR b w.heap.size cap l/\Below w.heap.size w b) (ls:=[10]) kr ?_;have a:(λb=>OwnR b w.heap.size cap l/\Below w.heap.size w b) D.drew:=⟨f.drew,x.drew⟩;clear f x;generalize D.drew=J at a|-;refine ae 0 6 a ?_;refine ae 1 7 a ?_;refine ae 2 8 a ?_;simp only[qQ];refine ac 3 9 (v:=Qd Qe (h.toNat:Int)) a ?_ ?_
 ·(intro b d;have e:=d.1.cell 0 oo;rw[C]at e;clear d;go_simp;try (with_reducible rfl))
 refine ae 4 10 a ?_;refine ae 5 11 a ?_;simp only[qQ];refine ac 6 12 (v:=Qd Qe (h.toNat:Int)) a ?_ ?_
 ·(intro b d;have e:=d.1.cell 0 oo;rw[C]at e;clear d;go_simp;try (with_reducible rfl))
 refine ae 7 13 (v:=Qd Qe ((h.toNat:Int)%8)) a ?_;refine ae 8 14 (v:=Qd Qe (c.toNat:Int)) a ?_;simp only[qQ];refine ae 9 15 a ?_;simp only[qQ];refine eF 10 λK z=>?_
 have H:=a.1.frozen 0 oo;have e:=a.1.cell 0 oo;go_simp;refine z.out _ _ ?_;clear z K H e;have g:=a.1.set 0 c;have u:=a.2.setCell (p:=⟨w.heap.size,0,none⟩) nR (Qd Qe (c.toNat:Int));clear a;generalize J.setCell ⟨w.heap.size,0,none⟩ (Qd Qe (c.toNat:Int))=X at g u|-;refine aC ?_;have G:=g.cell 31 (by simp[k]);rw[m]at G;have L:=g.frozen 31 (by simp[k]);have q:=g.set 31 i;have F:=u.setCell (p:=⟨w.heap.size,31,none⟩) nR (Qd Qe (i.toNat:Int));rw[j.out]at q;have O:=lW (n:=32) q (by rw[o]);clear g q;go_wp2;go_ret;exact⟨rfl,F⟩
theorem MH(X Y Z T j m o:List Int)(c:Qu)(h:Bool)(w:World)(s:c.length=32)
  (l:X.length=16) (r:Y.length=16) (E:Z.length=16) (D:T.length=16) (R:j.length=16) (S:m.length=16) (W:o.length=16)
  (J:Hid (Rv 85 #[Qa (Ns Z)] (Qa (Ns j))))
  (K:Hid (Rv 84 #[Qa (Ns X),Qa (Ns j)] (Qa (Ns m))))
  (L:Hid (Rv 84 #[Qa (Ns Y),Qa (Ns j)] (Qa (Ns o))))
  (M:Hid (Rv 87 #[Qa (Ns o)] (Qc ⟨c.toArray⟩)))
  (N:Hid (Rv 88 #[Qa (Ns m)] (.bool h))):
  Rw 40 #[Qa (Ns (bm X Y Z T))] w (Qc ⟨(if h=true then c.set 31 (c.getD 31 0|||128)else c).toArray⟩):=by
 have hz:=oe;have sY:=Nz r;have sZ:=Nz E;have sT:=Nz D;have v:=Nz R;have H:=Nz S;have I:=Nz W;have sX:=Nz l;have G:(Ns (bm X Y Z T)).size=64:=by rw[jn,jO l r E D]
 have a:=(WD.start (w:=w)).new (Ns (bm X Y Z T)) 61;generalize g:Ns (bm X Y Z T)=PA at G|-;replace g:=Qh g;rw[g.out]at a;have i:Hid (∀b:Bool,h=b->(if h=true then c.set 31 (c.getD 31 0|||128)else c)=if b=true then c.set 31 (c.getD 31 0|||128)else c):=λb e=>by rw[e]
 generalize (if h=true then c.set 31 (c.getD 31 0|||128)else c)=O at i|-;go_enter Tryz.func40,Tryz.ntmps40;have k:=Ow (Blk.new w (Ns (bm X Y Z T)) 61) l r;rw[g.out]at k;have P:=k;clear P;go_wp2_with (first
  |(refine jj rfl 59 _ rfl (w.heap.size) 32 rfl (Ns Z) _ k Qm rfl (by rw[sZ];exact Tryz.info16) ?_))
 clear k;rw[<-g.out]at a;clear G;rw[<-g.out];generalize w.alloc (.cells (Ns (bm X Y Z T)) 61)=w1 at a|-;refine gvW a J (λx1 a=>?_);go_wp2_with (first
  |(refine asW a twN v rfl (aK _) (λv2 a=>?_);generalize x1.heap.size=q3 at a|-;have B:=BE (a.get 1 rfl))
  |(refine jj rfl 59 _ rfl (w.heap.size) 0 rfl (Ns X) _ B Qm rfl (by rw[sX];exact Tryz.info16) ?_)
  |(refine ldW 0 a twN v ?_))
 clear B;refine gvW a K (λx4 a=>?_);go_wp2_with (first
  |(refine asW a twN H rfl (aK _) (λv5 a=>?_);generalize x4.heap.size=q4 at a|-;have C:=Es (a.get 2 rfl) l)
  |(refine jj rfl 59 _ rfl (w.heap.size) 16 rfl (Ns Y) _ C Qm rfl (by rw[sY];exact Tryz.info16) ?_)
  |(refine ldW 1 a twN v ?_))
 clear C;refine gvW a L (λx7 a=>?_);go_wp2_with (first
  |(refine asW a twN I rfl (aK _) (λv8 a=>?_);generalize x7.heap.size=q5 at a|-)
  |(refine ldW 0 a twN I ?_))
 refine gvW a M (λz a=>?_);obtain⟨cap,wb,ab,d,A⟩:=bytesOf ⟨c.toArray⟩ z.heap.size z nR;replace d:=d.at;rw[show (⟨c.toArray⟩:ByteArray).size=32 by rw[<-s];rfl]at ab;replace d:=d;have F:=a.below.size;replace a:=a.keep A;clear A;go_wp2_with (first
  |(refine ldW 1 a twN H ?_))
 generalize z.heap.size=Q at d F|-;refine gv N λwc t=>?_
 replace d:=d.below t d.lt;replace a:=a.keep t;clear t;cases h with
 |true=>
  have f:=i.out true rfl;rw[if_pos rfl]at f;clear i;have ag:=d.cell 31 oo;have ah:=d.frozen 31 oo;have u:=d.set 31 (c.getD 31 0|||128);have a2:bits BinOp.or Qe ((c.getD 31 0).toNat:Int) 128=((c.getD 31 0|||128).toNat:Int):=KB _ 128;rw[<-f]at u;have lR:O.length=32:=by rw[f,List.length_set,s]
  clear f;generalize c.getD 31 0|||128=y at*
  generalize c.getD 31 0=x at*;have ad:=lW (n:=32) u (by rw[lR]);have q:=a.below.setCell (p:=⟨Q,31,none⟩) F (Qd Qe (y.toNat:Int));clear u a d;go_wp2;go_ret;exact⟨rfl,q⟩
 |false=>
  have f:=i.out false rfl;rw[if_neg dd]at f;clear i;subst f;have ad:=lW (n:=32) d (by rw[s]);have q:=a.below;clear a d;go_wp2;go_ret;exact⟨rfl,q⟩
def oQ(p:Rp_Pn):List UInt8:=if kI (af p.x (fh p.z))=true then(bF (af p.y (fh p.z))).set 31 ((bF (af p.y (fh p.z))).getD 31 0|||128)else bF (af p.y (fh p.z))
theorem Aj(p:Rp_Pn):(oQ p).length=32:=by
 unfold oQ;split
 .rw[List.length_set,iE]
 .rw[iE]
theorem zy(p:Rp_Pn)(a:Rp_Fine p)(w:World):
  Rw 40 #[Qa (Ns (bc p))] w (Qc ⟨(oQ p).toArray⟩):=by
 have c:=j8 _ a.2.2.1;have d:=aA _ _ a.1 c;have e:=aA _ _ a.2.1 c;exact MH p.x p.y p.z p.t (fh p.z) (af p.x (fh p.z)) (af p.y (fh p.z)) (bF (af p.y (fh p.z))) (kI (af p.x (fh p.z))) w (iE _)
  a.1.1 a.2.1.1 a.2.2.1.1 a.2.2.2.1 c.1 d.1 e.1 (λb=>tS _ b a.2.2.1) (λb=>gP _ _ a.1 c b) (λb=>gP _ _ a.2.1 c b) (λb=>IL _ e b) (λb=>IP _ d b)
end Go.Proofs.YtclpbaokadfhhaaGreatDoor
