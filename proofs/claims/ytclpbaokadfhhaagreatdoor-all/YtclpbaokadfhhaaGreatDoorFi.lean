import Derived.Test.YtclpbaokadfhhaaGreatDoorXd
set_option maxRecDepth 100000
set_option maxHeartbeats 4000000
open Go.Value renaming int->Qa,agg->Qc
open Go.IntKind renaming u64->Qd,i64->Qe
open Nat renaming reduceEqDiff->Qf
open Bool renaming noConfusion->Qg
open List renaming not_mem_nil->Qi,mem_cons->Qj
open Go.Obj renaming cells->Qm
namespace Go.Proofs.YtclpbaokadfhhaaGreatDoor
open Go.RowKit
open StepsU renaming cons->Qk
theorem aaV(a:Ql)(w:World)(h:a.length=5):
  Rw 167 #[Qc (Ws a),Qa Qe 1] w (Qc (Ws a)):=by
 have d:=Wz h;have i:Blk ((w.alloc (Qm (Ws a) 69)).alloc (Qm (Ws [0,0,0,0,0]) 69)) w.heap.size (Ws a) 69:=heap_alloc2_old w _ _;have e:Blk ((w.alloc (Qm (Ws a) 69)).alloc (Qm (Ws [0,0,0,0,0]) 69)) (w.heap.size+1) (Ws [0,0,0,0,0]) 69:=heap_alloc2_new w _ _;have f:Below w.heap.size w ((w.alloc (Qm (Ws a) 69)).alloc (Qm (Ws [0,0,0,0,0]) 69)):=(bR.alloc nR _).alloc ss _;have b:=i;have c:=e;unfold Blk at b c;rw[<-FZ5]at b;rw[<-FZ5]at c;have g:(#[Qa Qd 0,Qa Qd 0,Qa Qd 0,Qa Qd 0,Qa Qd 0]:Array Value).size=5:=rfl;go_enter Tryz.func167,Tryz.ntmps167;go_wp2_with (first
  |(refine ld t69 rfl rfl w.heap.size rfl b d ?_)
  |(refine st t69 rfl rfl (w.heap.size+1) rfl rfl c d g (aZ _) ?_))
 rw[FZ5];refine bodyPost_ret (v:=Qc (Ws a)) ?_ rfl ⟨rfl,below_setRow f oo _⟩;exact rr t69 rfl rfl (e.row _) d
theorem Pe(a:Ql)(b:a.length=5):∀(f n:Nat) (w:World),1<=n->n<=f->f<=1000->
  Rw 167 #[Qc (Ws a),Qa Qe (n:Int)] w (Qc (Ws (iS a f n)))
 |0,n,w,c,h2,_=>by omega
 |f+1,n,w,c,h2,g=>by
  by_cases e:n=1
  .subst e;rw[show iS a (f+1) 1=a by unfold iS;rw[if_pos rfl]];exact aaV a w b
  .rw[show iS a (f+1) n=l9 a (iS a f (n/2)) n by rw[iS,if_neg e]];exact UA a _ n w b (xd a b _ _) (by omega) e c (λd=>Pe a b f (n/2) d (by omega) (by omega) (by omega))
theorem Fe(a:Ql)(w:World)(t:a.length=5):
  Rw 112 #[Qc (Ws a)] w (Qc (Ws (bN a))):=by
 have L:=Wz t;have s:=Qh (p:=bN a=aa (aX (iS a 250 250) 5) (aa (aa (aX a 3) (aX a 1)) a)) (by unfold bN;rfl)
 generalize bN a=A at s|-;have H1:Hid (Rv 166 #[Qc (Ws a),Qa Qe 3] (Qc (Ws (aX a 3)))):=λf=>As a 3 f t oo
 have N:(aX a 3).length=5:=oy _ t _;generalize aX a 3=F at H1 N s;have ay:=Wz N;have H3:Hid (Rv 166 #[Qc (Ws a),Qa Qe 1] (Qc (Ws (aX a 1)))):=λf=>As a 1 f t oo
 have M:(aX a 1).length=5:=oy _ t _;generalize aX a 1=E at H3 M s;have ax:=Wz M;have H4:=Qr λf=>eE _ _ f N M
 have O:(aa F E).length=5:=aw _ _;generalize aa F E=G at H4 O s;have az:=Wz O;have H6:=Qr λf=>eE _ _ f O t
 have I:(aa G a).length=5:=aw _ _;generalize aa G a=r at H6 I s;have ag:=Wz I;have J1:Hid (Rv 167 #[Qc (Ws a),Qa Qe 250] (Qc (Ws (iS a 250 250)))):=λf=>Pe a t 250 250 f oo oo oo
 have J:(iS a 250 250).length=5:=xd a t _ _;generalize iS a 250 250=H at J1 J s;have a0:=Wz J;have J2:Hid (Rv 166 #[Qc (Ws H),Qa Qe 5] (Qc (Ws (aX H 5)))):=λf=>As _ 5 f J oo
 have P:(aX H 5).length=5:=oy _ J _;generalize aX H 5=P5 at J2 P s;have a1:=Wz P;have J4:=Qr λf=>eE _ _ f P I
 have Q:(aa P5 r).length=5:=aw _ _;generalize aa P5 r=VV at J4 Q s;have ah:=Wz Q;have hr:=s.out;subst hr;clear s;have T:WS w w.heap.size [(w.heap.size,Ws a,69),(w.heap.size+1,#[Qa Qd 0,Qa Qd 0,Qa Qd 0,Qa Qd 0,Qa Qd 0],69)] ((w.alloc (Qm (Ws a) 69)).alloc (Qm #[Qa Qd 0,Qa Qd 0,Qa Qd 0,Qa Qd 0,Qa Qd 0] 69)):=by
  have g:=(WS.start (w:=w)).new (Ws a) 69;have h2:=g.new #[Qa Qd 0,Qa Qd 0,Qa Qd 0,Qa Qd 0,Qa Qd 0] 69;rw[show (w.alloc (Qm (Ws a) 69)).heap.size=w.heap.size+1 by simp]at h2;exact h2.sub (by intro x y;simp only[Qj,Qi,or_false]at y|-;rcases y with rfl|rfl<;>simp)
 go_enter Tryz.func112,Tryz.ntmps112;go_wp2_with fail;generalize (w.alloc (Qm (Ws a) 69)).alloc (Qm #[Qa Qd 0,Qa Qd 0,Qa Qd 0,Qa Qd 0,Qa Qd 0] 69)=w1 at T|-;refine bu (S:=WS w (w.heap.size) [(w.heap.size,Ws a,69),(w.heap.size+1,#[Qa Qd 0,Qa Qd 0,Qa Qd 0,Qa Qd 0,Qa Qd 0],69)]) (ls:=[8]) kr ?_;have C:=T.drew;clear T;generalize World.drew w1=rd at C|-;refine ar 0 4 t69 (λ_ h=>h.get 0 rfl) L C ?_;refine ar 2 6 t69 (λ_ h=>h.get 0 rfl) L C ?_;refine ar 5 9 t69 (λ_ h=>h.get 0 rfl) L C ?_;simp only[qQ];change bP _ _ _ _ _ _ 6 #[true,false,true,false,false,true,false,false,false] _ _;refine De (R:=λd u w'=>(d 1=true->u 5=Qc (Ws F))/\(d 3=true->u 7=Qc (Ws E))/\(d 4=true->u 8=Qc (Ws G))/\(d 6=true->u 10=Qc (Ws r))/\(d 7=true->Fresh w (w.heap.size) [(w.heap.size,Ws a,69),(w.heap.size+1,#[Qa Qd 0,Qa Qd 0,Qa Qd 0,Qa Qd 0,Qa Qd 0],69)] #[Qa Qd 0,Qa Qd 0,Qa Qd 0,Qa Qd 0,Qa Qd 0] 69 (u 3) w')/\WS w (w.heap.size) [(w.heap.size,Ws a,69),(w.heap.size+1,#[Qa Qd 0,Qa Qd 0,Qa Qd 0,Qa Qd 0,Qa Qd 0],69)] w') [5,7,8,10,3] [1,3,4,6,7] #[true,true,true,true,true,true,true,true,false] kr kr kr ⟨λh=>Qg h,λh=>Qg h,λh=>Qg h,λh=>Qg h,λh=>Qg h,C⟩ ?U ?V;case U=>
  refine Qk rfl ?sr1 (Qk rfl ?sr3 (Qk rfl ?Y (Qk rfl ?sr6 (Qk rfl ?sr7 StepsU.nil))));case sr1=>
   rintro d u f ⟨g,k,m,n,o,c⟩ j K b;simp only[bK,qF,qQ];go_simp;go_wp2_with (go_at_call 166;refine gv H1 λx0 e=>?_);refine b.out (upV u 5 (Qc (Ws F))) _ (c.keep e) ⟨λ_=>rfl,λh=>k h,λh=>m h,λh=>n h,λh=>(o h).keep e,c.keep e⟩ _ ?_;simp only[bK,qF,qQ,upV,reduceIte,Qf]
  case sr3=>
   rintro d u f ⟨g,k,m,n,o,c⟩ j K b;simp only[bK,qF,qQ];go_simp;go_wp2_with (go_at_call 166;refine gv H3 λx0 e=>?_);refine b.out (upV u 7 (Qc (Ws E))) _ (c.keep e) ⟨λh=>g h,λ_=>rfl,λh=>m h,λh=>n h,λh=>(o h).keep e,c.keep e⟩ _ ?_;simp only[bK,qF,qQ,upV,reduceIte,Qf]
  case Y=>
   rintro d u f ⟨g,k,m,n,o,c⟩ j K b;have e1:=g (j 1 kr);have B:=k (j 3 kr);simp only[bK,qF,qQ,e1,B];go_simp;go_wp2_with (go_at_call 111;refine gv H4 λx0 e=>?_);refine b.out (upV u 8 (Qc (Ws G))) _ (c.keep e) ⟨λh=>g h,λh=>k h,λ_=>rfl,λh=>n h,λh=>(o h).keep e,c.keep e⟩ _ ?_;simp only[bK,qF,qQ,upV,reduceIte,Qf,e1,B]
  case sr6=>
   rintro d u f ⟨g,k,m,n,o,c⟩ j K b;have e4:=m (j 4 kr);simp only[bK,qF,qQ,e4];go_simp;go_wp2_with (go_at_call 111;refine gv H6 λx0 e=>?_);refine b.out (upV u 10 (Qc (Ws r))) _ (c.keep e) ⟨λh=>g h,λh=>k h,λh=>m h,λ_=>rfl,λh=>(o h).keep e,c.keep e⟩ _ ?_;simp only[bK,qF,qQ,upV,reduceIte,Qf,e4]
  case sr7=>
   rintro d u f ⟨g,k,m,n,o,c⟩ j K b;simp only[bK,qF,qQ];go_simp;refine b.out (upV u 3 (.pointer (some ⟨f.heap.size,0,none⟩))) _ (c.alloc _) ⟨λh=>g h,λh=>k h,λh=>m h,λh=>n h,λ_=>Fresh.mk c _ _,c.alloc _⟩ _ ?_;simp only[bK,qF,qQ,upV,reduceIte,Qf]
 case V=>
  rintro n' d u rx ⟨g,k,m,n,o,c⟩ j;have e5:=g (j 1 rfl);have e7:=k (j 3 rfl);have e8:=m (j 4 rfl);have ab:=n (j 6 rfl);obtain⟨q,B,bq,lq,mq⟩:=o (j 7 rfl);simp only[bK,qF,qQ,e5,e7,e8,ab,B];clear j g k m n o e5 e7 e8 ab B;change bP _ _ _ _ _ _ (n'+1) _ _ _;replace c:=c.push bq mq;have ao:=lq _ (mG (i:=0) rfl);have ap:=lq _ (mG (i:=1) rfl);refine eF 8 λK b=>?_
  have Z:=de (l:=r) (c.get 0 rfl) (by rw[I];rfl);go_simp;refine b.out _ _ ?_;clear b K Z;replace c:=c.upd (q) (Ws r) 69 [(q,Ws r,69),(w.heap.size,Ws a,69),(w.heap.size+1,#[Qa Qd 0,Qa Qd 0,Qa Qd 0,Qa Qd 0,Qa Qd 0],69)] ⟨_,mG (i:=0) rfl⟩ (by intro x y;simp only[Qj,Qi,or_false]at y;rcases y with rfl|rfl|rfl<;>first|exact Or.inl rfl|exact Or.inr ⟨ss,by dsimp only;omega⟩);generalize rx.setRow (q) (Ws r)=ad at c|-;refine aC ?_;clear bq mq lq;go_wp2_with fail;refine bu (S:=WS w (w.heap.size) [(q,Ws r,69),(w.heap.size,Ws a,69),(w.heap.size+1,#[Qa Qd 0,Qa Qd 0,Qa Qd 0,Qa Qd 0,Qa Qd 0],69)]) (ls:=[5]) kr ?_;have D:=c.drew;clear c;generalize World.drew ad=td at D|-;refine ar 0 11 t69 (λ_ h=>h.get 1 rfl) L D ?_;refine ar 3 14 t69 (λ_ h=>h.get 0 rfl) ag D ?_;simp only[qQ];refine aF 1 λK b=>?_
  go_simp;go_wp2_with (go_at_call 167;refine gv J1 λa2 e=>?_);have W:=D.keep e;refine b.out _ _ W ?_;clear b K e D;refine aF 2 λK b=>?_
  go_simp;go_wp2_with (go_at_call 166;refine gv J2 λa3 e=>?_);have X:=W.keep e;refine b.out _ _ X ?_;clear b K e W;refine aF 4 λK b=>?_
  go_simp;go_wp2_with (go_at_call 111;refine gv J4 λan e=>?_);have z:=X.keep e;refine b.out _ _ z ?_;clear b K e X;refine eF 5 λK b=>?_
  have Z:=de (l:=A) (z.get 2 rfl) (by rw[Q];rfl);go_simp;refine b.out _ _ ?_;clear b K Z;replace z:=z.upd (w.heap.size+1) (Ws A) 69 [(q,Ws r,69),(w.heap.size,Ws a,69),(w.heap.size+1,Ws A,69)] ⟨_,mG (i:=2) rfl⟩ (by intro x y;simp only[Qj,Qi,or_false]at y;rcases y with rfl|rfl|rfl<;>first|exact Or.inl rfl|exact Or.inr ⟨ss,by dsimp only;omega⟩);generalize an.setRow (w.heap.size+1) (Ws A)=a4 at z|-;refine aC ?_;go_wp2;refine bodyPost_ret (v:=Qc (Ws A)) ?_ rfl ⟨rfl,z.below⟩;exact rr t69 rfl rfl (z.get 2 rfl) ah
end Go.Proofs.YtclpbaokadfhhaaGreatDoor
