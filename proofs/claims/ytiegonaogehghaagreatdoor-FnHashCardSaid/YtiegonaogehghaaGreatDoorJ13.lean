import Derived.Test.YtiegonaogehghaaGreatDoorJ09
import Derived.Test.YtiegonaogehghaaGreatDoorJ10
set_option maxRecDepth 100000
set_option maxHeartbeats 4000000
set_option linter.defProp false
open Option renaming some->bA
open Bool renaming false->cA,true->dA
open List renaming length->yA
namespace Go.Proofs.YtiegonaogehghaaGreatDoor
open Go renaming World->eA,Value->iA
open Ending renaming returned->uA
open Value renaming tuple->xA,slice->pA,pointer->sA,bool->qA,int->lA
open Obj renaming cells->vA
open IntKind renaming i64->mA
open Go.RowKit Tryz
def MJ(a:List bC):Prop:=∀i(h:i<yA a),a[i].N.size<=1000000000/\a[i].V.size<=1000000000
def AE{w:eA}{B d:Nat}{e:TypeId}{a:Nat}{v:iA}{n:Nat}{f:List iA}(h:w.ownsRow B e a v n f)(j:d<=B):w.ownsRow d e a v n f:=by
 refine⟨h.1,?_⟩;obtain i|⟨g,b,c,l,k,r⟩:=h.2;exact Ca i;exact La ⟨g,b,c,l,Ua j k,r⟩
def JW(a:List bC)(m:Nat)(h:m<yA a):(nC a)[m*2]?=bA (.string a[m].N):=by
 have e:nC a=nC (a.take m)++nC (a.drop m):=by rw[<-jF,Za]
 have b:yA (nC (a.take m))=m*2:=by rw[cI,Hb];omega
 rw[e,Uc (by omega),b,Nat.sub_self,Cb h];rfl
def MK(e:Ending)(w d:eA)(l:List bC)(c i:Nat):Prop:=∃b a,e=uA (xA #[pA b (yA l) a,zA (c:Nat),zA (i:Nat)])/\tD d w.1.size b l/\tB w d
def uf(e:Ending)(w d:eA)(l:List bC)(c i:Nat):Prop:=∃b a,e=uA (xA #[pA b (yA l) a,zA (c:Nat),zA (i:Nat)])/\yA l<=a/\tD d w.1.size b l/\tB w d
theorem BG(a:Option Addr)(e0:Nat)(c:List bC)(w:World)(hf:nD w a c)(hB:MJ c)(hlen:c.length<=2000000)(hcap:c.length<=e0):
 Calls prog 114 #[.slice a c.length e0] w λe P=>uf e w P (uB c).1 (uB c).2.1 (uB c).2.2:=by
 have HF:bB (nD w a c):=hf;have HB:bB (MJ c):=hB;clear hf hB;by_cases h16:16<c.length
 .rw[BP h16];go_enter func114,ntmps114;go_wp2;refine bodyPost_ret (v:=.tuple #[.slice (some ⟨w.1.size,0,none⟩) 0 0,.int .i64 40,.int .i64 0]) (by simp[results,results114,go_sem]) rfl ⟨_,_,rfl,Ia _,Ca rfl,yB⟩
 have J:bB (¬16<c.length):=h16;go_enter func114,ntmps114;go_wp2;go_loopw [6,7,8,25] (λ_ _ _ i wr=>∃k:Nat,k<=c.length/\i=.int .i64 k/\bB (aD c 0=aD (c.drop k) k)/\Below w.1.size w wr) (λ_ _ _ i _=>c.length-(intOf i).toNat)
 case atStart=>exact⟨0,Oa _,rfl,rfl,yB⟩
 case round=>
  obtain⟨k,hk,rfl,t,d⟩:=hrel;by_cases j:k<c.length
  .obtain ⟨b,o,rfl,hb,c0,c1⟩:=(HF.o.z d).at j;obtain⟨hs1,hs2⟩:=HB.o k j;have y:bB _:=λW=>ZS c[k].N W (by unfold maxLen;omega);have HVL:bB _:=λW=>KY c[k].V W hs2;have F:=AV c k j;have K:bB (∀V,tQ c[k]=V->V≠0->uB c=([],V,k)):=λV h h0=>qZ J.o (by rw[t.o,F,h,Ja h0]);have Z:bB (tQ c[k]=0->aD c 0=aD (c.drop (k+1)) (k+1)):=λh=>by rw[t.o,F,Ma h]
   unfold tQ at K Z;clear F hs1 hs2;generalize c[k].N=p at *;generalize c[k].V=r at *;go_wp2_with fail;refine oD (y.o _) ?_;cases hnm:PH p
   .have E:=cB (K.o 41 (by rw[hnm];rfl) (by omega));clear hnm;go_wp2;refine bodyPost_ret (v:=.tuple #[.slice (some ⟨w.1.size,0,none⟩) 0 0,.int .i64 41,.int .i64 k]) (by simp[results,results114,go_sem]) rfl ?_;rw[E.o];exact⟨_,_,rfl,Ia _,Ca rfl,vB d yB⟩
   rw[hnm,Ma rfl]at K Z;clear hnm;go_wp2_with fail;refine(HVL.o _).mono ?_;rintro e w2 ⟨rfl,hb2⟩;have G:bB _:=vB (vB d yB) hb2;clear hb2 HVL y;generalize cP r=V at *;by_cases h0:V=0
   .have E:=cB (Z.o h0);subst h0;go_wp2;exact⟨⟨k+1,by omega,by go_num,E.o,G.o⟩,by simp[intOf];omega⟩
   .have E:=cB (K.o V rfl h0);have h0b:((V:Int) != 0)=true:=by simp;omega
    clear h0;go_wp2;refine bodyPost_ret (v:=.tuple #[.slice (some ⟨w.1.size,0,none⟩) 0 0,.int .i64 V,.int .i64 k]) (by simp[results,results114,go_sem]) rfl ?_;rw[E.o];exact⟨_,_,rfl,Ia _,Ca rfl,G.o⟩
  .have HN:bB (aD c 0=none):=by
    show _=_;rw[t.o,Yb (by omega)];rfl
   clear t HB;go_wp2;clear j hk;go_loopw [9,10,12,47,54,55,56] (λ_ _ _ i _ _ _ wr=>∃k:Nat,k<=c.length/\i=.int .i64 k/\bB (iF [] c 0=iF (c.take k) (c.drop k) k)/\Below w.1.size w wr) (λ_ _ _ i _ _ _ _=>c.length-(intOf i).toNat)
   case atStart=>exact⟨0,Oa _,rfl,rfl,d⟩
   case round=>
    clear d;obtain⟨k,hk,rfl,t,d⟩:=hrel;by_cases j:k<c.length
    .obtain ⟨b,o,rfl,hb,c0,c1⟩:=(HF.o.z d).at j;have F:=EF c k j;have hk0:(0:Int)<=(k:Int):=by omega
     have hkc:(k:Int)<=(e0:Int):=by omega
     have HYES:bB _:=λh=>eY J.o HN.o (by rw[t.o,F,Ma h]);have HNO:bB (((c.take k).any λx=>mR x c[k])=false->iF [] c 0=iF (c.take (k+1)) (c.drop (k+1)) (k+1)):=λh=>by rw[t.o,F,Ja (by rw[h];simp)]
     have HSN:bB (∀x,mR x c[k]=(x.N.toList==c[k].N.toList)):=λx=>rfl;clear F;generalize hlk:c[k]=lk at *;generalize lk.N=p at *;generalize lk.V=r at *;have u:bB (gB (wr.alloc (.cells #[.string p,.string r] 181)) wr.1.size #[.string p,.string r] 181/\Below w.1.size w (wr.alloc (.cells #[.string p,.string r] 181))):=⟨heap_alloc_new _ _,vB d yB⟩
     go_wp2;generalize wr.alloc (.cells #[.string p,.string r] 181)=W at *;clear hb c0 c1 d;generalize wr.1.size=Q at *;clear wr;go_loopw [12,56] (λ_ i wr=>∃m:Nat,m<=k/\i=.int .i64 m/\bB (((c.take m).any λx=>mR x lk)=false)/\Below W.1.size W wr) (λ_ i _=>k-(intOf i).toNat)
     case atStart=>exact⟨0,Oa _,rfl,by show _=_;simp,bD⟩
     case round=>
      obtain⟨m,hm,rfl,C,l⟩:=hrel;have X:=u.o.1.z l;have x0:=X.cell 0;simp only[Xb,Ob]at x0;have hXl:=aB X;clear X;by_cases hmk:m<k
      .obtain ⟨b',o',e',hb',d0,d1⟩:=(HF.o.z (vB u.o.2 l)).at (i:=m) (by omega)
       simp only[Qa,Addr.mk.injEq,Cc]at e';obtain⟨rfl,rfl⟩:=e';have hT1:(c.take k).any (λx=>mR x lk)=true\/mR c[m] lk=false:=by
        cases hq:mR c[m] lk with
        |false=>exact La rfl
        |true=>
         left;rw[Zd];refine⟨c[m],?_,hq⟩;rw[List.mem_take_iff_getElem];exact⟨m,by omega,rfl⟩
       have HT1:bB _:=hT1;have HQ:bB _:=HSN.o c[m];have HT2:bB (mR c[m] lk=false->((c.take (m+1)).any λx=>mR x lk)=false):=λh=>by rw[Pa (by omega),Tf,C.o];simp[h]
       clear hT1;generalize c[m]=lm at *;generalize lm.N=O at *;generalize lm.V=va2 at *;by_cases hq:(O.toList==p.toList)=true
       .have E:bB (uB c=([],45,k)):=by
         obtain h|h:=HT1.o
         .exact HYES.o h
         .rw[HQ.o,hq]at h;exact absurd h (by simp)
        go_wp2;refine bodyPost_ret (v:=.tuple #[.slice (some ⟨w.1.size,0,none⟩) 0 0,.int .i64 45,.int .i64 k]) (by simp[results,results114,go_sem]) rfl ?_;rw[E.o];exact⟨_,_,rfl,Ia _,Ca rfl,vB (vB u.o.2 l) yB⟩
       .have hq':(O.toList==p.toList)=false:=by simpa using hq
        have E:bB _:=HT2.o (by rw[HQ.o];exact hq');clear hq;go_wp2;exact⟨⟨m+1,by omega,by go_num,E.o,vB l yB⟩,by simp[intOf];omega⟩
      .have Y:m=k:=by omega
       have E:bB _:=HNO.o (by rw[<-Y];exact C.o);subst Y;go_wp2;exact⟨⟨m+1,by omega,by go_num,E.o,vB u.o.2 l⟩,by simp[intOf];omega⟩
    .have HN2:bB (iF [] c 0=none):=by
      show _=_;rw[t.o,Yb (by omega)];rfl
     clear t;go_wp2;clear j hk;go_loopw [13,14,16,17,72] (λout me _ _ i wr=>∃(k:Nat)(f:List bC)(T cv:Nat)(L:Bool),k<=c.length/\f.length<=k/\bB (aG [] c=aG f (c.drop k)/\L=rR (c.take k))/\i=.int .i64 k/\out=.slice (some ⟨T,0,none⟩) f.length cv/\me=.bool L/\bB (wr.ownsRow w.1.size 181 2 (.slice (some ⟨T,0,none⟩) f.length cv) f.length (nC f))/\Below w.1.size w wr) (λ_ _ _ _ i _=>c.length-(intOf i).toNat)
     case atStart=>
      exact⟨0,[],_,_,false,Oa _,Oa _,⟨rfl,by simp[rR]⟩,rfl,rfl,rfl,AE (World.ownsRow_made wr #[] 0 (Ia _) (by simp[maxLen]) (by simp)) d.size,vB d yB⟩
     case round=>
      clear d;obtain⟨k,f,T,cv,L,hk,hy,t,rfl,rfl,rfl,n,d⟩:=hrel;have hsz:=d.size;by_cases j:k<c.length
      .obtain ⟨b,o,rfl,hb,c0,c1⟩:=(HF.o.z d).at j;have F:=ew f c k j;have C:=yt c k j;have hE:=fh c[k];have hMN:iP c[k]=(c[k].N.toList==[95,95,110,97,109,101,95,95]):=by rw[iP,show PR.toList=[95,95,110,97,109,101,95,95] by rw[PR,ByteArray.toList_eq]]
       by_cases D:pS c[k]=true
       .have E:bB (aG [] c=aG f (c.drop (k+1))/\L=rR (c.take (k+1))):=by
         refine⟨?_,?_⟩
         .rw[t.o.1,F,Ma D]
         .rw[C,D,t.o.2];simp
        have heb:c[k].V.toList.isEmpty=true:=by rw[<-hE];exact D
        clear F C D hE hMN;generalize c[k].N=p at *;generalize c[k].V=r at *;go_wp2;exact⟨⟨k+1,f,T,cv,L,by omega,by omega,E.o,by go_num,rfl,rfl,eC n.o yB,vB d yB⟩,by simp[intOf];omega⟩
       .have E:bB (aG [] c=aG (uQ c[k] f) (c.drop (k+1))/\(L||iP c[k])=rR (c.take (k+1))):=by
         refine⟨?_,?_⟩
         .rw[t.o.1,F,Ja D]
         .have he':pS c[k]=false:=by simpa using D
          rw[C,he',t.o.2];simp
        have heb:c[k].V.toList.isEmpty=false:=by rw[<-hE];simpa using D
        have HMN:bB _:=hMN;have HLK:bB (∀x,jP x c[k]=Op.bytesLess x.N.toList c[k].N.toList):=λx=>rfl;have HFL:bB (nC [c[k]]=[.string c[k].N,.string c[k].V]):=rfl;clear F C D hE hMN;generalize c[k]=lk at *;generalize lk.N=p at *;generalize lk.V=r at *;have u:bB (gB (wr.alloc (.cells #[.string p,.string r] 181)) wr.1.size #[.string p,.string r] 181):=heap_alloc_new _ _;have H:bB ((wr.alloc (.cells #[.string p,.string r] 181)).ownsRow w.1.size 181 2 (.slice (some ⟨T,0,none⟩) f.length cv) f.length (nC f)):=eC n.o yB;have HBW:bB (Below w.1.size w (wr.alloc (.cells #[.string p,.string r] 181))/\w.1.size<=wr.1.size/\T<wr.1.size):=⟨vB d yB,hsz,by
         obtain⟨D,_⟩|⟨g',cap',cur,D,_,hb,_⟩:=n.o.2
         .simp at D
         .simp only[Value.slice.injEq,Qa,Addr.mk.injEq,Cc]at D;rw[D.1];exact aB hb⟩
        cases L
        all_goals
         go_wp2;generalize wr.alloc (.cells #[.string p,.string r] 181)=W at *;clear n d hsz hb c0 c1;generalize wr.1.size=Q at *;clear wr;go_loopw [17] (λb0 wr=>∃m:Nat,m<=f.length/\b0=.int .i64 m/\bB (wX lk f=m+wX lk (f.drop m))/\Below W.1.size W wr) (λb0 _=>f.length-(intOf b0).toNat)
         case atStart=>exact⟨0,Oa _,rfl,by show _=_;simp,bD⟩
         case round=>
          obtain⟨m,hm,rfl,C,d⟩:=hrel;have X:=u.o.z d;have x0:=X.cell 0;have x1:=X.cell 1;simp only[Xb,Ob,Ga]at x0 x1;have y0:=iC.cells x0;have hne:=iC.there wr;have HX:bB (gB wr Q #[.string p,.string r] 181):=X;clear X x0 x1;have hcs:(∃h:m<f.length,jP f[m] lk=true/\wX lk f=m+1+wX lk (f.drop (m+1)))\/(¬(m:Int)<(f.length:Int)\/∃h:m<f.length,jP f[m] lk=false)/\wX lk f=m:=by
           by_cases q:m<f.length
           .have HPS:=zk lk f m q;cases s:jP f[m] lk
            .exact La ⟨La ⟨q,s⟩,by rw[C.o,HPS,Ja (by rw[s];simp)];rfl⟩
            .exact Ca ⟨q,s,by rw[C.o,HPS,Ma s];omega⟩
           .exact La ⟨Ca (by omega),by rw[C.o,Yb (by omega)];simp[wX]⟩
          have y:=cB fun(q:m<f.length)=>iC.cells ((tK (eC H.o d)).2.2.2 (m*2) _ (JW f m q));obtain⟨q,s,h2⟩|⟨hx,h2⟩:=hcs
          .have E2:=cB h2;have y2:=y.o q;have hm1:(m:Int)<(f.length:Int):=by omega
           have hm00:(0:Int)<=(m:Int):=by omega
           rw[HLK.o]at s;clear y h2 C;generalize f[m].N=O at *;go_wp2_with fail;refine wB (by kernel_rfl) (by kernel_rfl) ?_;repeat (go_big_quiet_step (fail))
           refine wpQuiet_nil ?_;rintro _ ⟨x,rfl⟩;have HXB:bB _:=vB d x.h;clear y0 y2 hne;generalize x.w'=g at *;clear x;go_wp2;exact⟨⟨m+1,by omega,by go_num,E2.o,HXB.o⟩,by simp[intOf];omega⟩
          have E2:=cB h2;have hm00:(0:Int)<=(m:Int):=by omega
          clear h2 C;obtain hml'|⟨q,s⟩:=hx
          have hml0:¬m<f.length:=by omega
          rotate_left;have y2:=y.o q;have hm1:(m:Int)<(f.length:Int):=by omega
          rw[HLK.o]at s;generalize f[m].N=O at *;all_goals
           go_wp2_with fail;refine wB (by kernel_rfl) (by kernel_rfl) ?_;repeat (go_big_quiet_step (fail))
           refine wpQuiet_nil ?_;rintro _ ⟨x,rfl⟩;try clear y2
           have hx:=x.h;clear y0 hne y;generalize x.w'=g at *;clear x;have G:bB _:=vB d hx;have R:bB _:=vB HBW.o.1 G.o;obtain⟨hcv,hg2,-,hrc⟩:=tK (eC H.o G.o);have a0:=cB hrc;have M:=HX.o.z hx;have x0:g.cell? ⟨Q,0,none⟩=some (.string p):=M.cell 0;have x1:g.cell? ⟨Q,1,none⟩=some (.string r):=M.cell 1;have U:=aB M;have hmc:(m:Int)<=(cv:Int):=by omega
           have hmn:(m:Int)<=(f.length:Int):=by omega
           have A:bB (∀P,Below g.1.size g P->P.cell? ⟨Q,0,none⟩=some (.string p)/\P.cell? ⟨Q,1,none⟩=some (.string r)):=λP h=>⟨(h.cell U).trans x0,(h.cell U).trans x1⟩
           have hL1:(nC (f.take m)).length=m*2:=by rw[cI,Hb];omega
           have hL2:(nC (f.drop m)).length=(f.length-m)*2:=by rw[cI,Rc]
           clear hx d HX H u M hrc;go_upto_region 33 with fail;go_region_held3 (λP=>P.cell? ⟨Q,0,none⟩=some (.string p)/\P.cell? ⟨Q,1,none⟩=some (.string r))
            (first|go_keep|exact A.o _ k7|exact A.o _ k6|exact A.o _ (N.alloc N.size _)|exact A.o _ N|exact A.o _ (JH g _)|exact A.o _ (JI g _ _))
            (first
             |(refine aS (by rfl) _ _ (by rfl) underlying104 nS rfl (by omega) (by omega) (B:=g.1.size) (by rfl) (by exact hown6) _ (by rfl) hL2 (by exact ju (fY a0.o hg2 k6) m hcv) (kS _) (by omega) (by exact k6.size) ?_;intro g7 S w7 I hB7 hk7 _;have k7:=k6.trans hB7)
             |(refine aS (by rfl) _ _ (by rfl) underlying104 nS rfl (by omega) (by omega) (B:=g.1.size) (by rfl) (by first|exact z|exact eC z yB) [.string p,.string r] (by rfl) rfl (by first|exact ZY (heap_alloc_new _ _)|exact ZY ((hk5 _ (by simp) (by omega)).trans (tw g _ _))|exact ZY ((hk5 _ (by simp;omega) (by omega)).trans (ua g _ _))) (by simp[Value.oneCell']) (by omega) (by first|exact N.size|exact(N.alloc N.size _).size) ?_;intro g6 cap6 w6 hown6 hB6 hk6 _;have k6:Below g.1.size g w6:=(by first|exact N.trans hB6|exact(N.alloc N.size _).trans hB6))
             |(refine aS (by rfl) _ _ (by rfl) underlying104 nS rfl (by omega) (by omega) (B:=g.1.size) (by rfl) (by first|exact aLy g _|exact aLz g _ _|exact aMa g _ _) _ (by rfl) hL1 (by first|exact jt (fY a0.o hg2 (JH g _)) m|exact jt (fY a0.o hg2 (JI g _ _)) m) (kS _) (by omega) (by first|exact(JH g _).size|exact(JI g _ _).size) ?_;intro g5 cap5 w5 z hB5 hk5 _;have N:Below g.1.size g w5:=(by first|exact(JH g _).trans hB5|exact(JI g _ _).trans hB5);simp only[Ya,Mb]at z |-))
           all_goals
            have hl:(uQ lk f).length=m+1+(f.length-m):=by rw[YU];omega
            have HO7:bB (w7.ownsRow w.1.size 181 2 (.slice (some ⟨g7,0,none⟩) (uQ lk f).length S) (uQ lk f).length (nC (uQ lk f))):=by
             have hfl:nC (uQ lk f)=nC (f.take m)++[.string p,.string r]++nC (f.drop m):=by
              rw[uQ,E2.o,jF,show lk::f.drop m=[lk]++f.drop m from rfl,jF,HFL.o,Nd]
             show World.ownsRow _ _ _ _ _ _ _;rw[hl,hfl];exact AE I R.o.size
            have HB7:bB _:=vB R.o k7;rw[<-hl];have hle7:(uQ lk f).length<=k+1:=by omega
            clear I k7 hl;generalize uQ lk f=ys7 at *;go_wp2;refine⟨⟨k+1,ys7,g7,S,_,by omega,hle7,⟨E.o.1,?_⟩,by go_num,rfl,rfl,HO7.o,HB7.o⟩,by simp[intOf];omega⟩;have h:=E.o.2;rw[HMN.o]at h;simpa using h
      .have HE:bB (aG [] c=f/\L=rR c):=by
        have h:=t.o;rw[Yb (by omega),Ra (by omega)]at h;exact h
       have HR:bB (tD wr w.1.size (some ⟨T,0,none⟩) f):=xJ n.o;have hcvr:=(tK n.o).1;clear n t;cases L with
       |false=>
        have E:bB _:=GU J.o HN.o HN2.o HE.o.2.symm;go_wp2;refine bodyPost_ret (v:=.tuple #[.slice (some ⟨w.1.size,0,none⟩) 0 0,.int .i64 46,.int .i64 0]) (by simp[results,results114,go_sem]) rfl ?_;rw[E.o];exact⟨_,_,rfl,Ia _,Ca rfl,d⟩
       |true=>
        have E:bB (uB c=(f,0,0)):=by show _=_;rw[MX J.o HN.o HN2.o HE.o.2.symm,HE.o.1]
        go_wp2;refine bodyPost_ret (v:=.tuple #[.slice (some ⟨T,0,none⟩) f.length cv,.int .i64 0,.int .i64 0]) (by simp[results,results114,go_sem]) rfl ?_;rw[E.o];exact⟨_,_,rfl,hcvr,HR.o,d⟩
def SG(a:jC)(c:Nat)(b:List bC)(w:eA)(n:nD w a b)(m:MJ b)(g:yA b<=2000000)(f:yA b<=c):
 Calls prog 114 #[pA a (yA b) c] w λe h=>MK e w h (uB b).1 (uB b).2.1 (uB b).2.2:=by
 refine(BG a c b w n m g f).mono ?_;rintro e h ⟨i,d,j,_,k,l⟩;exact⟨i,d,j,k,l⟩
def aOb(a:Array iA)(c:List mI):Prop:=∀k,k<yA c->a[k*2]?=bA (.pointer (pB ((jD c k).b)))/\a[k*2+1]?=bA (zA (jD c k).t)
def rH(w:eA)(g a:Nat)(hs:List mI):Prop:=∃b,gB w g b 334/\b.size=a*2/\yA hs<=a/\a<=maxLen/\aOb b hs
def rH.cells{w:eA}{g d k:Nat}{c:List mI}(h:rH w g d c)(f:k<yA c):
 w.cell? (dB g (k*2))=bA (.pointer (pB ((jD c k).b)))/\w.cell? (dB g (k*2+1))=bA (zA (jD c k).t)/\w.frozen? (dB g (k*2))=cA/\w.frozen? (dB g (k*2+1))=cA:=by
 obtain⟨i,a,_,_,_,e⟩:=h;rw[a.cell,a.cell];exact⟨(e k f).1,(e k f).2,a.free _,a.free _⟩
def rH.z{w d:eA}{g a:Nat}{c:List mI}(h:rH w g a c)(i:tB w d):rH d g a c:=by
 obtain⟨b,e,f⟩:=h;exact⟨b,e.z i,f⟩
def rH.lt{w:eA}{g a:Nat}{d:List mI}(h:rH w g a d):g<w.1.size:=by
 obtain⟨b,c,e⟩:=h;exact aB c
def pD.drew{g:Nat}{a w:eA}(h:pD g a w):pD g a w.drew:=⟨h.os,h.tape,h.output,h.size,h.block⟩
def rH.swap{w:eA}{g c i j:Nat}{a:List mI}(h:rH w g c a)(u:i<yA a)(v:j<yA a):
 rH ((((w.setCell (dB g (i*2)) (.pointer (pB ((jD a j).b)))).setCell (dB g (i*2+1)) (zA (jD a j).t)).setCell (dB g (j*2)) (.pointer (pB ((jD a i).b)))).setCell (dB g (j*2+1)) (zA (jD a i).t)) g c (aH a i j):=by
 obtain⟨o,p,d,q,r,s⟩:=h;refine⟨_,(((p.set _ _).set _ _).set _ _).set _ _,by simp[d],by rw[lD];exact q,r,λk l=>?_⟩;rw[lD]at l;rw[sI u v];by_cases e:k=j
 .subst e;rw[Ma rfl];constructor<;>simp[Eb,d]<;>omega
 rw[Ja e];by_cases f:k=i
 .subst f;rw[Ma rfl];constructor
  .rw[Ea (by omega),Ea (by omega),Ea (by omega)];simp[Eb,d];omega
  rw[Ea (by omega),Ea (by omega)];simp[Eb,d];omega
 rw[Ja f];obtain⟨m,n⟩:=s k l;constructor;rw[Ea (by omega),Ea (by omega),Ea (by omega),Ea (by omega)];exact m;rw[Ea (by omega),Ea (by omega),Ea (by omega),Ea (by omega)];exact n
def QX(x o g n h i j:Nat)(f:List mI)(w:eA)(N:w.cell? (dB x o)=bA (pA (pB g) n h))(y:n=yA f)(l:rH w g h f)(L:i<n)(M:j<n):
 Calls prog 297 #[sA (bA (dB x o)),zA i,zA j] w λe r=>e=uA (xA #[])/\rH r g h (aH f i j)/\pD g w r:=by
 have p:bB (rH ((((w.setCell (dB g (i*2)) (.pointer (pB ((jD f j).b)))).setCell (dB g (i*2+1)) (zA (jD f j).t)).setCell (dB g (j*2)) (.pointer (pB ((jD f i).b)))).setCell (dB g (j*2+1)) (zA (jD f i).t)) g h (aH f i j)):=l.swap (by omega) (by omega);obtain⟨z,B,c,d⟩:=l.cells (k:=i) (by omega);obtain⟨D,E,O,P⟩:=l.cells (k:=j) (by omega);have q:∀(a b:iA),(∃v,((w.setCell (dB g (i*2)) a).setCell (dB g (i*2+1)) b).cell? (dB g (j*2))=bA v)/\(∃v,((w.setCell (dB g (i*2)) a).setCell (dB g (i*2+1)) b).cell? (dB g (j*2+1))=bA v)/\
  ((w.setCell (dB g (i*2)) a).setCell (dB g (i*2+1)) b).frozen? (dB g (j*2))=cA/\((w.setCell (dB g (i*2)) a).setCell (dB g (i*2+1)) b).frozen? (dB g (j*2+1))=cA:=λa b=>by
  obtain⟨s,u,J,K,_⟩:=l;have m:=(u.set (i*2) a).set (i*2+1) b;exact⟨m.there (by simp;omega),m.there (by simp;omega),m.free _,m.free _⟩
 obtain⟨⟨Q,F⟩,⟨S,G⟩,H,I⟩:=q (.pointer (pB ((jD f j).b))) (zA (jD f j).t);clear y l q;generalize jD f i=A at *;generalize jD f j=C at *;generalize aH f i j=R at *;clear f;go_enter func297,ntmps297;go_wp2_with fail;go_region
 go_wp2;go_end0;exact⟨rfl,p.o,(((((pD.refl g w).setCell _ _).setCell _ _).setCell _ _).setCell _ _).drew⟩
def jK(a:List mI):List iA:=a.flatMap λx=>[.pointer (pB x.b),zA x.t]
def YA(a b:List mI):jK (a++b)=jK a++jK b:=by simp[jK]
def EH(a:List mI):yA (jK a)=yA a*2:=by
 induction a with
 |nil=>rfl
 |cons x r b=>simp[jK]at b |-;omega
def GY:∀(a:List mI)(k:Nat),k<yA a->(jK a)[k*2]?=bA (.pointer (pB ((jD a k).b)))/\(jK a)[k*2+1]?=bA (zA (jD a k).t)
 |[],k,h=>absurd h (by simp)
 |x::r,0,_=>⟨rfl,rfl⟩
 |x::r,k+1,h=>by
  have c:=GY r k (by simpa using h);have e:jK (x::r)=.pointer (pB x.b):: zA x.t::jK r:=rfl;rw[e,show(k+1)*2=k*2+1+1 by omega,Ga,Ga,Ga,Ga];exact c
def EK{w:eA}{B g n a:Nat}{c:List mI}(h:w.ownsRow B 334 2 (pA (pB g) n a) n (jK c))(u:n=yA c):rH w g a c/\B<=g:=by
 obtain⟨e,_⟩|⟨s,d,b,e,o,p,t,i,l,m⟩:=h.2;simp at e;simp only[iA.slice.injEq,Qa,Addr.mk.injEq,Cc,true_and]at e;obtain⟨rfl,rfl⟩:=e;refine⟨⟨b,p,l,by omega,i,λk r=>?_⟩,o⟩;have f:∀j,j<n*2->b[j]?=(jK c)[j]?:=λj q=>by rw[<-m,Jb q,Yd]
 rw[f _ (by omega),f _ (by omega)];exact GY c k r
def zW{w:eA}{B g a:Nat}{b:List mI}(h:rH w g a b)(m:B<=g):w.ownsRow B 334 2 (pA (pB g) (yA b) a) (yA b) (jK b):=by
 obtain⟨c,d,f,i,k,l⟩:=h;refine⟨EH b,La ⟨g,a,c,rfl,m,d,i,k,f,?_⟩⟩;apply List.ext_getElem?;intro j;by_cases n:j<yA b*2
 .rw[Jb n,Yd];obtain⟨o,p⟩:=l (j / 2) (by omega);obtain⟨q,r⟩:=GY b (j / 2) (by omega);rcases Nat.mod_two_eq_zero_or_one j with e|e
  .have:j=j / 2*2:=by omega
   rw[this,o,q]
  have:j=j / 2*2+1:=by omega
  rw[this,p,r]
 rw[Fd (by simp;omega),Fd (by rw[EH];omega)]
def ns:(prog.info? 334).map (λi=>(i.zero,i.size,i.bytes))=bA (bA (.agg #[sA none,zA 0]),2,16):=by kernel_rfl
def BN(p q:iA)(s t:Int)(w:eA):vE 387 #[.agg #[p,zA s],.agg #[q,zA t]] w (qA (decide (s<t))):=by
 go_enter func387,ntmps387;go_wp2;go_ret;exact⟨rfl,vB yB yB⟩
def rW(x y : Value)(w : World) : (invoke (.fn (.method "loop.example/s02176/impl.before") #[]) #[.iface 334 x, y]).run prog w = .ok (.enter 387 #[x, y]) w := by kernel_rfl
def wU{P:Program}{c:Array Oper}{C:eA->Prop}{Q:Act->Prop}{a:Act}{o:Oper}{b:List Oper}{f:FuncId}{args:Array iA}{v:iA}(k:Region.wanted o (yielded c a.tmps)=dA)
(j:∀w,(execOp a.eval o).run P w=.ok (.enter f args) w)(i:∀w,C w->Calls P f args w (λe d=>e=uA v/\C d))(h:wpQuiet P c C Q b (a.put o.dst v)):wpQuiet P c C Q (o::b) a:=
 BigFrame.wpQuiet_want k λK g=>⟨v,λw k=>by unfold Oper.quietAt;rw[j];exact⟨rfl,i w k⟩,g _ h⟩
def mY{P:Program}(ρ:Operand->iA)(o:Oper)(r y:Operand)(name:String)(d:Array TypeId)(a:o.op=.call { callee:=.invoke r name,args:=#[y],argTypes:=d}){u z:iA}(b:ρ r=u)(c:ρ y=z){n:Next}{w:eA}
(h:(invoke (.fn (.method name) #[]) #[u,z]).run P w=.ok n w):(execOp ρ o).run P w=.ok n w:=by
 unfold execOp;simp only[a,resolve];simp[b,c,h]
def im(x o B:Nat)(v:iA)(j:List mI)(s:mI)(w:eA)(G:Array iA)(M:TypeId)(h:gB w x G M)(Z:G[o]?=bA v)(O:w.ownsRow B 334 2 v (yA j) (jK j))(E:v.ownBlock≠bA x)(b:B<=w.1.size)(b:yA j<=1000000000):
 Calls prog 262 #[sA (bA (dB x o)),.agg #[.pointer (pB s.b),zA s.t]] w λe w'=>e=uA (xA #[])/\∃g f,gB w' x (G.setIfInBounds o (pA (pB g) (yA j+1) f)) M/\
  w'.ownsRow B 334 2 (pA (pB g) (yA j+1) f) (yA j+1) (jK (lR j s))/\(v.ownBlock=bA g\/w.1.size<=g)/\eB (λk=>k=x\/v.ownBlock=bA k) w w':=by
 obtain⟨I,hi,b,t,U⟩:=info_parts ns;have c0:w.cell? (dB x o)=bA v:=by rw[h.cell];exact Z
 have m:=aB h;have HX:bB (gB w x G M):=h;clear h;have W:bB (((w.alloc (vA #[.pointer (pB s.b),zA s.t] 334)).alloc (vA #[.pointer (pB s.b),zA s.t] 334)).ownsRow B 334 2 v (yA j) (jK j)):=cB ((O.alloc _).alloc _);have Y:bB (((w.alloc (vA #[.pointer (pB s.b),zA s.t] 334)).alloc (vA #[.pointer (pB s.b),zA s.t] 334)).heap[w.1.size+1]?=bA (vA #[.pointer (pB s.b),zA s.t] 334 (0,0))):=cB (by have:=heap_alloc_new (w.alloc (vA #[.pointer (pB s.b),zA s.t] 334)) (vA #[.pointer (pB s.b),zA s.t] 334);simpa using this);have N:bB (∀p:eA,((w.alloc (vA #[.pointer (pB s.b),zA s.t] 334)).alloc (vA #[.pointer (pB s.b),zA s.t] 334)).grownBy p v.ownBlock->gB p x G M/\eB (λk=>v.ownBlock=bA k) w p):=λp h=>by
  have m:=(eB.of (S:=λk=>v.ownBlock=bA k) (vB (pF w _) yB)).trans' (eB.grown h);exact⟨m.blk HX.o E,m⟩
 clear O;go_enter func262,ntmps262;go_upto_region 1 with fail;go_cut [13] (λ_ m=>∃g f,gB m x (G.setIfInBounds o (pA (pB g) (yA j+1) f)) M/\rH m g f (j++[s])/\B<=g/\(v.ownBlock=bA g\/w.1.size<=g)/\g≠x/\eB (λk=>k=x\/v.ownBlock=bA k) w m)
 case first=>
  go_region_law (refine step_append_lies _ rfl (.tmp 10) (.tmp 12) 188 rfl B 334 I (.agg #[sA none,zA 0]) 2 16 underlying188 hi b t U rfl (by decide) v (yA j) (jK j) (by simp[Act.eval]) (by exact W.o) (dB (w.1.size+1) 0) 1 1 [.pointer (pB s.b),zA s.t] (by simp[Act.eval]) rfl (eA.news_of_block (cs:=#[.pointer (pB s.b),zA s.t]) (by exact Y.o)) (by intro u m;simp at m;rcases m with rfl|rfl<;>rfl) (by omega) (by unfold maxLen;omega) (by omega) (by simp;omega) (w.1.size+1+1) (by simp) ?_;intro g f p I D m J;obtain⟨n,L⟩:=N.o p ⟨D.os,D.tape,D.output,D.size,D.block⟩;have c1:p.cell? (dB x o)=bA v:=(by rw[n.cell];exact Z);have d:=n.free o)
  all_goals(go_wp2_with fail;go_meet)
  all_goals
   have J:p.ownsRow B 334 2 (pA (pB g) (yA j+1) f) (yA j+1) (jK (j++[s])):=by rw[YA];exact I
   obtain⟨O,I⟩:=EK J (by simp);have K:g≠x:=by
    obtain h|h:=m
    .exact λe=>E (by rw[<-e];exact h)
    omega
   obtain⟨J,m1,m2⟩:=O;exact⟨g,f,n.set o _,⟨J,m1.but ((pD.refl _ _).setCell _ _) K,m2⟩,I,by obtain h|h:=m;exact Ca h;exact La (by omega),K,eB.setCell (S:=λk=>k=x\/v.ownBlock=bA k) (L.mono λk _ hk=>La hk) (Ca (Ca rfl)) _ _⟩
 obtain⟨g,f,n,O,I,m,K,L⟩:=hcut;rename eA=>p;have R:bB (gB p x (G.setIfInBounds o (pA (pB g) (yA j+1) f)) M):=n;have HM1:bB (rH p g f (j++[s])):=O;have HT1:bB _:=L;have r:bB _:=m;have hoc:=(Vb.1 Z).1;have J:(G.setIfInBounds o (pA (pB g) (yA j+1) f))[o]?=bA (pA (pB g) (yA j+1) f):=by simp[hoc]
 obtain⟨T,V⟩:∃c,c=G.setIfInBounds o (pA (pB g) (yA j+1) f):=⟨_,rfl⟩
 rw[<-V]at J R;have G:bB _:=V;clear V;have k0:p.cell? (dB x o)=bA (pA (pB g) (yA j+1) f):=by rw[R.o.cell];exact J
 clear n O L m W Y N HX c0 Z hi b t U E;go_wp2;go_loopw [4] (λa wr=>∃(k:Nat)(l:List mI),a=zA k/\k<yA l/\yA l=yA j+1/\gB wr x T M/\rH wr g f l/\bB (lR j s=fR l k)/\eB (λk=>k=x\/v.ownBlock=bA k) w wr) (λa _=>(intOf a).toNat)
 case atStart=>exact⟨yA j,j++[s],by go_num,by simp,by simp,R.o,HM1.o,rfl,HT1.o⟩
 case round=>
  obtain⟨k,l,rfl,hk,O,Y,b,HS,m⟩:=hrel;have F:bB (gB wr x T M):=Y;have z:bB (rH wr g f l):=b;have Q:bB _:=m;have Z:wr.cell? (dB x o)=bA (pA (pB g) (yA j+1) f):=by rw[Y.cell];exact J
  clear Y b m k0;by_cases b:0<k
  .have X:=KR (l:=l) b;obtain⟨q,b⟩:∃q,q=(k-1) / 2:=⟨_,rfl⟩
   rw[<-b]at X;have U:((k:Int)-1) / 2=(q:Nat):=by omega
   have hp:q<yA l:=by omega
   obtain⟨Y,a1,_,_⟩:=z.o.cells hk;obtain⟨b0,b1,_,_⟩:=z.o.cells hp;have m:bB _:=X;have t:bB (∀W,tB wr W->Calls prog 297 #[sA (bA (dB x o)),zA k,zA (((k:Int)-1) / 2)] W λe w'=>e=uA (xA #[])/\rH w' g f (aH l k q)/\pD g W w'):=
    λW hW=>by rw[U];exact QX x o g (yA j+1) f k q l W (by rw[(F.o.z hW).cell];exact J) O.symm (z.o.z hW) (by omega) (by omega)
   have HL:bB _:=O;have o:k<yA j+1:=by omega
   have o:q<yA j+1:=by omega
   clear X b O;have o:=iC.cells Z;have J:=iC.cells Y;have d2:=iC.cells a1;have d3:=iC.cells b0;have d4:=iC.cells b1;have b:=iC.there wr;clear Y a1 b0 b1 Z;generalize jD l k=A at *;generalize jD l q=C at *;go_wp2_with fail;refine wB (by kernel_rfl) (by kernel_rfl) ?_;repeat (go_big_quiet_step (fail))
   refine wU (by rfl) (λW=>mY _ _ _ _ _ _ rfl rfl rfl (rW _ _ W)) (by rintro _ ⟨x,rfl⟩;exact mC (BN _ _ _ _ _)) ?_;simp only[Act.put,Ud,Jd,Ze];repeat (go_big_quiet_step (fail))
   refine wpQuiet_nil ?_;rintro _ ⟨y,rfl⟩;have Z:bB _:=y.h;have HE:bB _:=U;clear o J d2 d3 d4 b U;generalize y.w'=b at *;clear y;by_cases H:A.t<C.t
   .have o:decide (A.t<C.t)=dA:=by simpa using H
    rw[o];have P:bB (lR j s=fR (aH l k q) q):=by show _=_;rw[HS.o,m.o,Ma H]
    go_wp2_with fail;apply hC (t.o _ Z.o);rintro J ⟨b,U⟩;have W:bB (rH J g f (aH l k q)):=b;have Y:bB (gB J x T M):=(F.o.z Z.o).but U K.symm;have HT3:bB (eB (λk=>k=x\/v.ownBlock=bA k) w J):=by
     refine(Q.o.trans' (eB.of Z.o)).trans ((eB.but U).mono λi _ e=>?_);subst e;obtain h|h:=r.o;exact Ca (La h);exact La h
    clear b U t;go_wp2;exact⟨⟨q,aH l k q,by rw[HE.o],by rw[lD];exact hp,by rw[lD];exact HL.o,Y.o,W.o,P.o,HT3.o⟩,by simp[intOf];omega⟩
   have o:decide (A.t<C.t)=cA:=by simpa using H
   rw[o];have P:bB (lR j s=l):=by show _=_;rw[HS.o,m.o,Ja H]
   go_wp2;refine bodyPost_ret (v:=xA #[]) (by simp[results,results262,go_sem]) rfl ⟨rfl,g,f,G.o ▸ F.o.z Z.o,?_,r.o,Q.o.trans' (eB.of Z.o)⟩;rw[P.o,<-HL.o];exact zW (z.o.z Z.o) I
  go_wp2;go_end0;obtain rfl:k=0:=by omega
  rw[HS.o,KS];refine⟨rfl,g,f,G.o ▸ F.o,?_,r.o,Q.o⟩;rw[<-O];exact zW z.o I
def gO(w:eA)(A:Nat->Prop)(a:jC)(b:List iB):Prop:=b=[]\/∃g o,a=bA (dB g o)/\A g/\g<w.1.size/\LN w g o b
def gO.pairs{w:eA}{A:Nat->Prop}{a:jC}{b:List iB}(h:gO w A a b):lC w a b:=by grind [gO,lC]
def eD.toN{w:eA}{C:Nat}{A:Nat->Prop}{a:jC}{b:List iB}(h:eD w C a b)(c:∀g,C<=g->A g):gO w A a b:=by grind [eD,gO]
def aOc(w:eA)(A:Nat->Prop)(b o:Nat)(t:fB):Prop:=
 ∃a d c e,w.cell? (dB b o)=bA (.string t.N)/\w.cell? (dB b (o+1))=bA (zA t.L)/\w.cell? (dB b (o+2))=bA (pA a (yA t.M) d)/\w.cell? (dB b (o+3))=bA (pA c (yA t.Z) e)/\
  gO w A a t.M/\gO w A c t.Z
def wK(w:eA)(A:Nat->Prop)(a:jC)(c:List fB):Prop:=c=[]\/∃b o,a=bA (dB b o)/\A b/\b<w.1.size/\∀i(h:i<yA c),aOc w A b (o+i*4) c[i]
def gO.keep{w w':eA}{A:Nat->Prop}{a:jC}{d:List iB}(h:gO w A a d)(l:w.1.size<=w'.1.size)(k:∀g,A g->g<w.1.size->w'.heap[g]?=w.heap[g]?):gO w' A a d:=by
 obtain h|⟨g,o,rfl,c,b,h⟩:=h;exact Ca h;have e:∀j,w'.cell? (dB g j)=w.cell? (dB g j):=λj=>eA.cell?_of_block (k g c b);exact La ⟨g,o,rfl,c,by omega,λi f=>by simp only[e];exact h i f⟩
def wK.keep{w w':eA}{A:Nat->Prop}{a:jC}{l:List fB}(h:wK w A a l)(k:w.1.size<=w'.1.size)(d:∀g,A g->g<w.1.size->w'.heap[g]?=w.heap[g]?):wK w' A a l:=by
 obtain h|⟨b,o,rfl,f,e,h⟩:=h;exact Ca h;refine La ⟨b,o,rfl,f,by omega,λi y=>?_⟩;obtain⟨m,p,n,q,r,s,t,u,v,x⟩:=h i y;have c:∀j,w'.cell? (dB b j)=w.cell? (dB b j):=λj=>eA.cell?_of_block (d b f e);exact⟨m,p,n,q,(c _).trans r,(c _).trans s,(c _).trans t,(c _).trans u,v.keep k d,x.keep k d⟩
def wK.z{w d:eA}{A:Nat->Prop}{a:jC}{c:List fB}(h:wK w A a c)(b:tB w d):wK d A a c:=h.keep b.size λg _ e=>b.block g e
def gO.mono{w:eA}{A A':Nat->Prop}{a:jC}{b:List iB}(h:gO w A a b)(c:∀g,A g->A' g):gO w A' a b:=by grind [gO]
def wK.mono{w:eA}{A A':Nat->Prop}{a:jC}{f:List fB}(h:wK w A a f)(c:∀g,A g->A' g):wK w A' a f:=by
 obtain h|⟨b,o,e,q,d,h⟩:=h;exact Ca h;refine La ⟨b,o,e,c b q,d,λi v=>?_⟩;obtain⟨j,l,k,m,n,p,r,s,t,u⟩:=h i v;exact⟨j,l,k,m,n,p,r,s,t.mono c,u.mono c⟩
def wK.tens{w:eA}{A:Nat->Prop}{a:jC}{d:List fB}(h:wK w A a d):uC w a d:=by
 obtain h|⟨b,o,rfl,_,c,h⟩:=h;exact Ca h;refine La ⟨b,o,rfl,c,λi r=>?_⟩;obtain⟨e,g,f,j,k,l,m,n,p,q⟩:=h i r;exact⟨e,g,f,j,k,l,m,n,p.pairs,q.pairs⟩
def zC.toN{w:eA}{C:Nat}{A:Nat->Prop}{a:jC}{c:List fB}(h:zC w C a c)(b:∀g,C<=g->A g):wK w A a c:=by
 obtain h|⟨g,o,k,t,T,rfl,s,u,_,h⟩:=h;exact Ca h;refine La ⟨g,o,rfl,b g s,aB u,λi v=>?_⟩;obtain⟨d,f,e,j,l,m,n,p,q,r⟩:=h i v;exact⟨d,f,e,j,l,m,n,p,q.own.toN b,r.own.toN b⟩
def uC.toN{w:eA}{a:jC}{d:List fB}(h:uC w a d):wK w (λg=>g<w.1.size) a d:=by
 obtain h|⟨b,o,e,c,h⟩:=h;exact Ca h;refine La ⟨b,o,e,c,c,λi v=>?_⟩;obtain⟨f,m,j,n,p,q,r,s,t,u⟩:=h i v;exact⟨f,m,j,n,p,q,r,s,t.elim Ca fun⟨g,o,e,l,k⟩=>La ⟨g,o,e,l,l,k⟩,u.elim Ca fun⟨g,o,e,l,k⟩=>La ⟨g,o,e,l,l,k⟩⟩
def wK.lt{w:eA}{A:Nat->Prop}{a:jC}{d:List fB}(h:wK w A a d):wK w (λg=>A g/\g<w.1.size) a d:=by
 obtain h|⟨b,o,e,x,c,h⟩:=h;exact Ca h;refine La ⟨b,o,e,⟨x,c⟩,c,λi y=>?_⟩;obtain⟨f,n,j,p,q,r,s,t,u,v⟩:=h i y;exact⟨f,n,j,p,q,r,s,t,u.elim Ca fun⟨g,o,e,l,m,k⟩=>La ⟨g,o,e,⟨l,m⟩,m,k⟩,v.elim Ca fun⟨g,o,e,l,m,k⟩=>La ⟨g,o,e,⟨l,m⟩,m,k⟩⟩
def wK.turn{w W:eA}{A S:Nat->Prop}{a:jC}{c:List fB}(h:wK w A a c)(b:eB S w W)(d:∀g,A g->¬S g):wK W A a c:=h.keep b.size λg e f=>b.block g f (d g e)
def fJ{s:nB}{b:Bool}(h:cH s=b)(w:eA)(a:s.size<=maxLen):hI 100 #[.string s] w (qA b):=h ▸ OY s w a
def tU(a:jC)(r:Nat)(d:List jB)(c p m s:Int)(O:Bool)(w:eA)(hf:rB w a d)(hs:eP d)(I:yA d<=maxLen)(J:qC d<=1000000000):
 vE 39 #[.agg #[pA a (yA d) r,lA mA c,lA mA p,lA mA m,lA mA s,qA O]] w (qA (sE d c p m s)):=by
 obtain⟨z0,z1,z2,z3,z4,z5⟩:=TJ w (pA a (yA d) r) (lA mA c) (lA mA p) (lA mA m) (lA mA s) (qA O) 35;have d0:=iC.cells z0;have d1:=iC.cells z1;have d2:=iC.cells z2;have d3:=iC.cells z3;have d4:=iC.cells z4;have d5:=iC.cells z5;have F:tB w (w.alloc (vA #[pA a (yA d) r,lA mA c,lA mA p,lA mA m,lA mA s,qA O] 35)):=bD.alloc (Ia _) _;have hne:=iC.there (w.alloc (vA #[pA a (yA d) r,lA mA c,lA mA p,lA mA m,lA mA s,qA O] 35));have C:bB (∀x:iC (w.alloc (vA #[pA a (yA d) r,lA mA c,lA mA p,lA mA m,lA mA s,qA O] 35)),rB x.w' a d):=λx=>(hf.z F).z x.h;have R:bB (∀x:iC (w.alloc (vA #[pA a (yA d) r,lA mA c,lA mA p,lA mA m,lA mA s,qA O] 35)),tB w x.w'):=λx=>F.trans (x.h.mono F.size);have HS:bB (eP d):=hs;have HL:bB _:=I;unfold maxLen at I;clear z0 z1 z2 z3 z4 z5 F hf hs;by_cases hA0:(1000:Int)<yA d
 .have E:bB (sE d c p m s=cA):=by
   show _=_;have e:decide (yA d<=1000)=cA:=by simp;omega
   simp only[sE,e,Be]
  go_enter func39,ntmps39;go_wp2_with fail;refine wB (by kernel_rfl) (by kernel_rfl) ?_;repeat (go_big_quiet_step (fail))
  refine wpQuiet_nil ?_;rintro _ ⟨x,rfl⟩;go_wp2;go_ret;exact⟨oB E.o.symm,R.o x⟩
 have hA1:decide ((1000:Int)<yA d)=cA:=by simp;omega
 have hA2:decide (1000<yA d)=cA:=by simp;omega
 have Z:decide (yA d<=1000)=dA:=by simp;omega
 by_cases z:zB c 0 1000000000=cA
 .have E:bB (sE d c p m s=cA):=by show _=_;simp only[sE,z,Wg,Be]
  have u:bB _:=z;clear z Z;go_enter func39,ntmps39;go_wp2_with fail;refine wB (by kernel_rfl) (by kernel_rfl) ?_;repeat (go_big_quiet_step (first|(go_at_call 90;apply wC;apply xD;exact u.o)))
  refine wpQuiet_nil ?_;rintro _ ⟨x,rfl⟩;go_wp2;go_ret;exact⟨oB E.o.symm,R.o x⟩
 have qB:zB c 0 1000000000=dA:=by simpa using z
 have u:bB _:=qB;clear z;by_cases hC0:c<(qC d:Int)
 .have E:bB (sE d c p m s=cA):=by
   show _=_;have e:decide ((qC d:Int)<=c)=cA:=by simp;omega
   simp only[sE,e,Wg,Be]
  clear Z qB;go_enter func39,ntmps39;go_wp2_with fail;refine wB (by kernel_rfl) (by kernel_rfl) ?_;repeat (go_big_quiet_step (first|(go_at_call 90;apply wC;apply xD;exact u.o)|(go_at_call 99;exact mC (vY _ _ _ _ _ _ _ _ _ (C.o _) HL.o J))))
  refine wpQuiet_nil ?_;rintro _ ⟨x,rfl⟩;go_wp2;go_ret;exact⟨oB E.o.symm,R.o x⟩
 have hC1:decide (c<(qC d:Int))=cA:=by simp;omega
 have qC:decide ((qC d:Int)<=c)=dA:=by simp;omega
 have E:bB (sE d c p m s=(bI d&&zB p 0 1000000000000000&&zB m 0 1000000000000000&&zB s 0 1000000000000000)):=by show _=_;simp only[sE,Z,qB,qC,Oc,Bool.and_true]
 clear Z qB qC;go_enter func39,ntmps39;go_wp2_with fail;refine wB (by kernel_rfl) (by kernel_rfl) ?_;repeat (go_big_quiet_step (first|(go_at_call 90;apply wC;apply xD;exact u.o)|(go_at_call 99;exact mC (vY _ _ _ _ _ _ _ _ _ (C.o _) HL.o J))))
 refine wpQuiet_nil ?_;rintro _ ⟨x,rfl⟩;have HF:bB (rB x.w' a d):=C.o x;have S:bB (tB w x.w'):=R.o x;have n:w.1.size<x.w'.1.size:=by have:=x.h.size;simp at this;omega
 have e0:=d0 x;have T:=d2 x;have e3:=d3 x;have e4:=d4 x;clear d0 d1 d2 d3 d4 d5 C R hne u;generalize x.w'=W at *;clear x;have HC:bB (∀wr,tB W wr->wr.cell? ⟨w.1.size,0,none⟩=bA (pA a (yA d) r)/\wr.cell? ⟨w.1.size,2,none⟩=bA (lA mA p)/\
  wr.cell? ⟨w.1.size,3,none⟩=bA (lA mA m)/\wr.cell? ⟨w.1.size,4,none⟩=bA (lA mA s)):=λwr h=>
  ⟨(h.cell n).trans e0,(h.cell n).trans T,(h.cell n).trans e3,(h.cell n).trans e4⟩
 go_wp2;go_loopw [3,4,25] (λ_ _ i wr=>∃k:Nat,k<=yA d/\i=lA mA k/\tS d k=dA/\tB W wr) (λ_ _ i _=>yA d-(intOf i).toNat)
 case atStart=>exact⟨0,Oa _,rfl,rfl,bD⟩
 case round=>
  obtain⟨k,hk,rfl,U,g⟩:=hrel;obtain⟨e0',e2',e3',e4'⟩:=HC.o wr g;have L:bB _:=U;have t:bB _:=S.o.trans (g.mono (Vg n));have M:w.1.size<wr.1.size:=by have:=g.size;omega
  have hsz2:¬w.1.size=wr.1.size:=by omega
  clear U e0 T e3 e4 S HC;by_cases l:k<yA d
  .obtain ⟨b,o,rfl,hb,c0,c1,c2⟩:=(HF.o.z g).at l;have V:=(HS.o k l).1;have hsd:=(HS.o k l).2;have y:bB _:=V;unfold maxLen at hsd;clear V;by_cases P:cH d[k].N=cA
   .have f:lT d k=cA:=by simp[lT,Va l,nO,P]
    have D:bB _:=aZ f l;have N:bB _:=P;clear f P;go_wp2_with(first|(go_at_call 100;apply hC (fJ N.o _ y.o);rintro q rfl));go_ret;exact⟨oB (by rw[E.o,bI,D.o];simp),t.o.alloc (Vg M) _⟩
   have H:cH d[k].N=dA:=by simpa using P
   have N:bB _:=H;by_cases A:zB d[k].Y 0 d[k].data.size=cA
   .have f:lT d k=cA:=by simp[lT,Va l,nO,A]
    have D:bB _:=aZ f l;have v:bB _:=A;clear f P H A;go_wp2_with(first|(go_at_call 100;apply hC (fJ N.o _ y.o);rintro q rfl)|(go_at_call 90;apply hC (xD v.o _);rintro q rfl));go_ret;exact⟨oB (by rw[E.o,bI,D.o];simp),t.o.alloc (Vg M) _⟩
   have B:zB d[k].Y 0 d[k].data.size=dA:=by simpa using A
   have v:bB _:=B;have G:nO d[k]=dA:=by simp[nO,H,B]
   clear P H A B;by_cases hk0:(0:Int)<k
   .obtain ⟨b2,o2,T,q1,c0',q2,q3⟩:=(HF.o.z g).at (i:=k-1) (by omega)
    simp only[Qa,Addr.mk.injEq,Cc]at T;obtain⟨rfl,rfl⟩:=T;have f:lT d k=Op.bytesLess d[k-1].N.toList d[k].N.toList:=by
     obtain⟨j,rfl⟩:∃j,k=j+1:=⟨k-1,by omega⟩
     simp[lT,Va l,Va (show j<yA d by omega),G]
    generalize d[k-1].N=gn at c0' f;have hk1:0<k:=by omega
    clear q1 q2 q3 G;by_cases hl:Op.bytesLess gn.toList d[k].N.toList=dA
    .have D:bB (tS d (k+1)=dA):=by show tS d (k+1)=dA;rw[AD,L.o,f,hl];rfl
     clear f;go_wp2_with(first|(go_at_call 100;apply hC (fJ N.o _ y.o);rintro q rfl)|(go_at_call 90;apply hC (xD v.o _);rintro q rfl));go_quiet (fail)
     go_wp2;exact⟨⟨k+1,by omega,by go_num,D.o,below_drewN (g.alloc g.size _) _⟩,by simp[intOf];omega⟩
    have hl':Op.bytesLess gn.toList d[k].N.toList=cA:=by simpa using hl
    have D:bB _:=aZ (by rw[f];exact hl') l;clear f hl;go_wp2_with(first|(go_at_call 100;apply hC (fJ N.o _ y.o);rintro q rfl)|(go_at_call 90;apply hC (xD v.o _);rintro q rfl));go_quiet (fail)
    go_wp2;go_ret;exact⟨oB (by rw[E.o,bI,D.o];simp),below_drewN (t.o.alloc (Vg M) _) _⟩
   have f:lT d k=dA:=by
    obtain rfl:k=0:=by omega
    simp[lT,Va l,G]
   have D:bB (tS d (k+1)=dA):=by show tS d (k+1)=dA;rw[AD,L.o,f];rfl
   have hk1:decide (0<k)=cA:=by simp;omega
   clear f G;go_wp2_with(first|(go_at_call 100;apply hC (fJ N.o _ y.o);rintro q rfl)|(go_at_call 90;apply hC (xD v.o _);rintro q rfl));go_quiet (fail)
   go_wp2;exact⟨⟨k+1,by omega,by go_num,D.o,below_drewN (g.alloc g.size _) _⟩,by simp[intOf];omega⟩
  have ek:k=yA d:=by omega
  have E2:bB (sE d c p m s=(zB p 0 1000000000000000&&zB m 0 1000000000000000&&zB s 0 1000000000000000)):=by
   show _=_;have:=L.o;rw[ek]at this;rw[E.o,bI,this,Oc]
  by_cases X:zB p 0 1000000000000000=cA
  .have K:bB _:=X;clear X;go_wp2_with(first|(go_at_call 90;apply hC (xD K.o _);rintro q rfl));go_ret;exact⟨oB (by rw[E2.o,K.o];rfl),t.o⟩
  have K:bB (zB p 0 1000000000000000=dA):=by show _=_;simpa using X
  clear X;by_cases Y:zB m 0 1000000000000000=cA
  .have Q:bB _:=Y;clear Y;go_wp2_with fail;apply hC (xD K.o _);rintro q rfl;go_wp2_with fail;apply hC (xD Q.o _);rintro q rfl;go_wp2;go_ret;exact⟨oB (by rw[E2.o,K.o,Q.o];rfl),t.o⟩
  have Q:bB (zB m 0 1000000000000000=dA):=by show _=_;simpa using Y
  clear Y;go_wp2_with fail;apply hC (xD K.o _);rintro q rfl;go_wp2_with fail;apply hC (xD Q.o _);rintro q rfl;go_wp2_with fail;apply hC (qD _ _ _ _);rintro q rfl;go_wp2;go_ret;exact⟨oB (by rw[E2.o,K.o,Q.o];rfl),t.o⟩
