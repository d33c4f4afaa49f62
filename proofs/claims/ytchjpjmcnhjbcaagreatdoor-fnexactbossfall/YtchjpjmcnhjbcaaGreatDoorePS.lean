import Derived.Test.YtchjpjmcnhjbcaaGreatDoorK2
import Derived.Shelf.Strings.Builder1
set_option linter.unusedVariables false
set_option maxHeartbeats 8000000
set_option maxRecDepth 100000
namespace Go.Proofs.YtchjpjmcnhjbcaaGreatDoor
open Proofs.Tryz Go.RowKit
theorem a2k (x:L4) (w:World) (d:x.le 1048600):
 Calls prog 147 #[.agg #[.bool x.has,.string x.nm,.int .i64 x.cd,.string x.tx]] w fun e w'=>Nl (Rh x) e/\Bw w w':=by
 obtain ⟨s1,s2⟩:=d;have a:∀ o,Bw w (w.alloc o):=fun o=>P6;cases hn:Y5 x.nm.data.toList
 · have i:=U0 (J_ (QC hn));go_enter func147,ntmps147
   go_wp2_with fail
   refine (NJ x.nm _ O0).mono ?_;rintro e c ⟨rfl,hw⟩;obtain rfl:=hw.symm;rw [hn];go_wp2;go_ret;exact ⟨i.out,a _⟩
 · cases hh:x.has
   · have b:=U0 (BP hn hh);go_enter func147,ntmps147
     go_wp2_with fail
     refine (NJ x.nm _ O0).mono ?_;rintro e c ⟨rfl,hw⟩;obtain rfl:=hw.symm;rw [hn]
     go_wp2_with fail
     refine (jI x.cd x.tx _ O0).mono ?_;rintro e w2 ⟨rfl,f⟩;have g:=(a _).trans (f.mono X4);go_wp2;go_ret;exact ⟨⟨_,rfl,b.out.symm⟩,g⟩
   · have b:=U0 (nP hn hh)
     skip
     all_goals
      go_enter func147,ntmps147
      go_wp2_with fail
      refine (NJ x.nm _ O0).mono ?_;rintro e c ⟨rfl,hw⟩;obtain rfl:=hw.symm;rw [hn];go_wp2
      all_goals go_ret
      all_goals first
       | exact ⟨Nj (b.out.2 (by simp [*])),a _⟩
       | exact ⟨J_ (fun h=>by have:=b.out.1 h;simp [*] at this),a _⟩
       | exact ⟨Nj (b.out.2 (by simp [*])),(a _).alloc X4 _⟩
       | exact ⟨J_ (fun h=>by have:=b.out.1 h;simp [*] at this),(a _).alloc X4 _⟩
theorem a2t (x:L4) (w:World) (f:x.le 1048600):
 Calls prog 224 #[.agg #[.bool x.has,.string x.nm,.int .i64 x.cd,.string x.tx]] w fun e w'=>Nl (Rh x) e/\Bw w w':=by
 obtain ⟨s1,s2⟩:=f;have a:∀ o,Bw w (w.alloc o):=fun o=>P6;cases hh:x.has
 · cases hn:Y5 x.nm.data.toList
   · have d:=U0 (J_ (QC hn));go_enter func224,ntmps224
     go_wp2_with fail
     refine (c116 x.nm _ O0).mono ?_;rintro e c ⟨rfl,hw⟩;obtain rfl:=hw.symm;rw [hn];go_wp2;go_ret;exact ⟨d.out,a _⟩
   · have b:=U0 (BP hn hh);go_enter func224,ntmps224
     go_wp2_with fail
     refine (c116 x.nm _ O0).mono ?_;rintro e c ⟨rfl,hw⟩;obtain rfl:=hw.symm;rw [hn]
     go_wp2_with fail
     refine (pM x.cd x.tx _ O0).mono ?_;rintro e w2 ⟨rfl,g⟩;have i:=(a _).trans (g.mono X4);go_wp2;go_ret;exact ⟨⟨_,rfl,b.out.symm⟩,i⟩
 · cases hn:Y5 x.nm.data.toList
   · have d:=U0 (J_ (QC hn));go_enter func224,ntmps224
     go_wp2_with fail
     refine (c116 x.nm _ O0).mono ?_;rintro e c ⟨rfl,hw⟩;obtain rfl:=hw.symm;rw [hn];go_wp2;go_ret;exact ⟨d.out,(a _).alloc X4 _⟩
   · have b:=U0 (nP hn hh)
     skip
     all_goals
      go_enter func224,ntmps224
      go_wp2_with fail
      refine (c116 x.nm _ O0).mono ?_;rintro e c ⟨rfl,hw⟩;obtain rfl:=hw.symm;rw [hn];go_wp2
      all_goals go_ret
      all_goals first
       | exact ⟨Nj (b.out.2 (by simp [*])),(a _).alloc X4 _⟩
       | exact ⟨J_ (fun h=>by have:=b.out.1 h;simp [*] at this),(a _).alloc X4 _⟩
       | exact ⟨Nj (b.out.2 (by simp [*])),((a _).alloc X4 _).alloc U7 _⟩
       | exact ⟨J_ (fun h=>by have:=b.out.1 h;simp [*] at this),((a _).alloc X4 _).alloc U7 _⟩
def Uf (ls:List L4):Prop:=ls.length<=15/\∀ i,i<ls.length->Rh (ls.getD i E_)
theorem c99 (a:OA) (B:Nat) (ls:List L4) (w:World) (hl:ls.length<=1048576) (q:∀ i,(ls.getD i E_).le 1048576) (u:o9 w a ls):
 Calls prog 99 #[.slice a ls.length B] w fun e w'=>Nl (Uf ls) e/\Bw w w':=by
 obtain ⟨b,off,hc⟩:=xg u;have E:=U0 hc;have D:=U0 q;clear hc u q;by_cases hbig:15<ls.length
 · have n:Hid (Nl (Uf ls) (.returned (.bool false))):=J_ (fun h=>by have:=h.1;omega);go_enter func99,ntmps99;go_wp2;go_ret;exact ⟨n.out,Z4 _ _⟩
 · go_enter func99,ntmps99
   go_wp2_with fail
   go_loopw [3] (fun g wr=>∃ k:Nat,k<=ls.length/\g=.int .i64 k/\Below w.heap.size w wr/\Hid (∀ j,j<k->Rh (ls.getD j E_))) (fun g _=>ls.length - (RowKit.intOf g).toNat)
   case atStart=>exact ⟨0,J4 _,rfl,Z4 _ _,fun j h=>absurd h (J8 _)⟩
   case round=>
    obtain ⟨k,hk,rfl,c,s⟩:=hrel;by_cases m:k<ls.length
    · obtain ⟨ha,f,t⟩:=Cc E.out m;subst ha;obtain ⟨g0,g1,g2,g3⟩:=t k m;have g0:=(c.cell (p:=⟨b,off+k*4,none⟩) f).trans g0;have g1:=(c.cell (p:=⟨b,off+k*4+1,none⟩) f).trans g1;have g2:=(c.cell (p:=⟨b,off+k*4+2,none⟩) f).trans g2;have g3:=(c.cell (p:=⟨b,off+k*4+3,none⟩) f).trans g3;have o:=D.out k;have n:Hid (¬ Rh (ls.getD k E_)->Nl (Uf ls) (.returned (.bool false))):=fun h=>J_ fun d=>h (d.2 k m);have C:Hid (Rh (ls.getD k E_)->∀ j,j<k+1->Rh (ls.getD j E_)):=fun h j z=>by
       rcases Q7 j k with h1 | h1
       · exact s.out j h1
       · obtain rfl:j=k:=O0;exact h
      generalize ls.getD k E_=x at*;clear t
      go_wp2_with fail
      refine (a2k x wr ⟨by have:=o.1;omega,by have:=o.2;omega⟩).mono ?_;rintro e w1 ⟨⟨r,rfl,hr⟩,A⟩;have v:=X5 c A;cases r
      · have y:=U0 (n.out fun h=>absurd (hr.2 h) Xk);clear hr;go_wp2;go_ret;exact ⟨y.out,v⟩
      · have l:=U0 (C.out (hr.1 rfl));clear hr;go_wp2;go_roundw
        case rel=>exact ⟨k+1,O0,by go_num,v,l⟩
        case measure=>simp [RowKit.intOf];omega
    · have l:Hid (Nl (Uf ls) (.returned (.bool true))):=Nj ⟨O0,fun j z=>s.out j O0⟩;go_wp2;go_ret;exact ⟨l.out,c⟩
theorem c168 (a:OA) (C:Nat) (ls:List L4) (w:World) (hl:ls.length<=1048576) (q:∀ i,(ls.getD i E_).le 1048576) (u:o9 w a ls):
 Calls prog 168 #[.slice a ls.length C] w fun e w'=>Nl (Uf ls) e/\Bw w w':=by
 obtain ⟨b,off,hc⟩:=xg u;have F:=U0 hc;have E:=U0 q;clear hc u q;by_cases hbig:15<ls.length
 · have n:Hid (Nl (Uf ls) (.returned (.bool false))):=J_ (fun h=>by have:=h.1;omega);go_enter func168,ntmps168;go_wp2;go_ret;exact ⟨n.out,Z4 _ _⟩
 · go_enter func168,ntmps168
   go_wp2_with fail
   go_loopw [10] (fun g wr=>∃ k:Nat,k<=ls.length/\g=.int .i64 k/\Below w.heap.size w wr/\Hid (∀ j,j<k->Rh (ls.getD j E_))) (fun g _=>ls.length - (RowKit.intOf g).toNat)
   case atStart=>exact ⟨0,J4 _,rfl,Z4 _ _,fun j h=>absurd h (J8 _)⟩
   case round=>
    obtain ⟨k,hk,rfl,c,s⟩:=hrel;by_cases m:k<ls.length
    · obtain ⟨ha,f,t⟩:=Cc F.out m;subst ha;obtain ⟨g0,g1,g2,g3⟩:=t k m;have g0:=(c.cell (p:=⟨b,off+k*4,none⟩) f).trans g0;have g1:=(c.cell (p:=⟨b,off+k*4+1,none⟩) f).trans g1;have g2:=(c.cell (p:=⟨b,off+k*4+2,none⟩) f).trans g2;have g3:=(c.cell (p:=⟨b,off+k*4+3,none⟩) f).trans g3;have o:=E.out k;have n:Hid (¬ Rh (ls.getD k E_)->Nl (Uf ls) (.returned (.bool false))):=fun h=>J_ fun d=>h (d.2 k m);have D:Hid (Rh (ls.getD k E_)->∀ j,j<k+1->Rh (ls.getD j E_)):=fun h j z=>by
       rcases Q7 j k with h1 | h1
       · exact s.out j h1
       · obtain rfl:j=k:=O0;exact h
      generalize ls.getD k E_=x at*;clear t
      go_wp2_with fail
      have B:Bw w (wr.alloc (.cells #[.bool x.has,vS x.nm,vI x.cd,vS x.tx] 185)):=c.alloc c.size _;generalize (wr.alloc (.cells #[.bool x.has,vS x.nm,vI x.cd,vS x.tx] 185))=V at*;refine (a2t x V ⟨by have:=o.1;omega,by have:=o.2;omega⟩).mono ?_;rintro e w1 ⟨⟨r,rfl,hr⟩,A⟩;have v:=X5 B A;cases r
      · have y:=U0 (n.out fun h=>absurd (hr.2 h) Xk);clear hr;go_wp2;go_ret;exact ⟨y.out,v⟩
      · have l:=U0 (D.out (hr.1 rfl));clear hr;go_wp2;go_roundw
        case rel=>exact ⟨k+1,O0,by go_num,v,l⟩
        case measure=>simp [RowKit.intOf];omega
    · have l:Hid (Nl (Uf ls) (.returned (.bool true))):=Nj ⟨O0,fun j z=>s.out j O0⟩;go_wp2;go_ret;exact ⟨l.out,c⟩
def Zf (m:M3) (ls:List L4) (c:Int) (t:BY):Prop:=Ze m=true/\Uf ls/\vr c t.data.toList=true
def qB (P:Prop) (l:List UInt8) (e:Ending):Prop:=∃ s,e=.returned (.string s)/\((P/\s=J3 l)\/(¬ P/\s=⟨#[]⟩))
theorem Xj {P:Prop} {l:List UInt8} (h:¬ P):qB P l (.returned (.string ⟨#[]⟩)):=⟨_,rfl,.inr ⟨h,rfl⟩⟩
theorem qB.congr {P Q:Prop} {l k:List UInt8} {e:Ending} (h:qB P l e) (a:P↔Q) (hl:P->l=k):qB Q k e:=by
 obtain ⟨s,rfl,h⟩:=h;refine ⟨s,rfl,?_⟩;rcases h with ⟨h1,h2⟩ | ⟨h1,h2⟩
 · exact .inl ⟨a.1 h1,by rw [h2,hl h1]⟩
 · exact .inr ⟨fun h=>h1 (a.2 h),h2⟩
theorem a0R (m:M3) (ls:List L4) (c:Int) (t:BY) (g:OA) (n:Nat) (w:World) (hm:m.le 1048576) (hl:ls.length<=1048576) (s:∀ i,(ls.getD i E_).le 1048576) (ht:t.size<=1048576) (x:o9 w g ls):
 Calls prog 188 #[.agg #[.string m.nm,.string m.tl,.string m.ar],.slice g ls.length n,.agg #[.int .i64 c,.string t]] w fun e w'=>Nl (Zf m ls c t) e/\Bw w w':=by
 go_enter func188,ntmps188
 go_wp2_with fail
 refine (a1E m _ ⟨G7 hm.1 O0,G7 hm.2.1 O0,G7 hm.2.2 O0⟩).mono ?_;rintro e j ⟨rfl,k⟩;have b:Below (w.heap.size+2) ((w.alloc (.cells #[vS m.nm,vS m.tl,vS m.ar] 135)).alloc (.cells #[vI c,vS t] 103)) j:=KD k;have p:D5 ((w.alloc (.cells #[vS m.nm,vS m.tl,vS m.ar] 135)).alloc (.cells #[vI c,vS t] 103)) (w.heap.size+1) [vI c,vS t]:=by have h:=Z7 (w.alloc (.cells #[vS m.nm,vS m.tl,vS m.ar] 135)) [vI c,vS t] 103;simp at h;exact h
 have z:=p.below b O0;have f:=(P6.alloc X4 _).trans (b.mono O0);have q:w.heap.size+1<j.heap.size:=by have h:=b.size;simp at h;omega
 clear k p;cases hn:Ze m
 · have a:Hid (Nl (Zf m ls c t) (.returned (.bool false))):=J_ (fun h=>by have h1:=h.1;rw [hn] at h1;cases h1);go_wp2;go_ret;exact ⟨a.out,f⟩
 · go_wp2_with fail
   refine (c99 g n ls _ hl s (l7 x f)).mono ?_;rintro e w2 ⟨⟨r,rfl,hr⟩,d⟩;have l:=X5 f d;have o:=z.below d q;have k0:=o 0 _ rfl;have k1:=o 1 _ rfl;clear d;cases r
   · have a:Hid (Nl (Zf m ls c t) (.returned (.bool false))):=J_ (fun h=>absurd (hr.2 h.2.1) o6);clear hr;go_wp2;go_ret;exact ⟨a.out,l⟩
   · have u:=hr.1 rfl;clear hr
     go_wp2_with fail
     refine (jI c t _ O0).mono ?_;rintro e w3 ⟨rfl,v⟩;have y:=X5 l v;have a:Hid (Nl (Zf m ls c t) (.returned (.bool (vr c t.data.toList)))):=⟨_,rfl,⟨fun h=>⟨hn,u,h⟩,fun h=>h.2.2⟩⟩;go_wp2;go_ret;exact ⟨a.out,y⟩
theorem EJ {B i j:Nat} (h:i≠j):(⟨B,i,none⟩:Addr)≠⟨B,j,none⟩:=by intro e;injection e with _ e;exact h e
end Go.Proofs.YtchjpjmcnhjbcaaGreatDoor
namespace Go.Proofs
open Go.Shelf
def Tryz.lays169_ren:Go.Shelf.Ren:=⟨fun | 169=>252 | n => n, fun | 70=>338 | 9=>9 | 0=>0 | 72=>340 | 37=>183 | 127=>373 | 3=>3 | 5=>5 | n => n, fun | n=>n⟩
theorem Tryz.lays169:Go.Proofs.Lays.n169 prog Tryz.lays169_ren:={
 mixed:=Y2
 f169:=func252.trans (U6 some Y2)
 t0:=underlying0
 a0:=Tryz.isAgg0
 z0:=Tryz.sizeOf0
 v0:=Tryz.zeroValue0
 t3:=underlying3
 a3:=Tryz.isAgg3
 z3:=Tryz.sizeOf3
 v3:=Tryz.zeroValue3
 t9:=underlying9
 a9:=Tryz.isAgg9
 z9:=Tryz.sizeOf9
 v9:=Tryz.zeroValue9
 t37:=underlying183
 a37:=Tryz.isAgg183
 z37:=Tryz.sizeOf183
 v37:=Tryz.zeroValue183
 t70:=underlying338
 a70:=Tryz.isAgg338
 z70:=Tryz.sizeOf338
 v70:=Tryz.zeroValue338
 t72:=underlying340
 a72:=Tryz.isAgg340
 z72:=Tryz.sizeOf340
 v72:=Tryz.zeroValue340
 t127:=underlying373
 a127:=Tryz.isAgg373
 z127:=Tryz.sizeOf373
 v127:=Tryz.zeroValue373 }
theorem Tryz.Builder_Extra_169:Builder.Extra prog Tryz.lays169_ren:={
 sizeBuilder:=Y2
 liesBuilder:=Y2
 t5:=underlying5
 a5:=Tryz.isAgg5
 z5:=Tryz.sizeOf5
 v5:=Tryz.zeroValue5
 infoByte:=Y2
 cellsByte:=Y2
 sizeByte:=Y2
 neB5:=by decide }
open Go.RowKit in
theorem Tryz.Builder_String_any (B b:Nat) (l:List UInt8) (w:World) (h:Lib.IsBuilder 340 5 B b (Lib.byteCells l) w) (a:B<=w.heap.size):
 Calls prog 252 #[.pointer (some ⟨b,0,none⟩)] w fun e w'=>e=.returned (.string ⟨l.toArray⟩)/\Below B w w':=Any.Builder_String_any Tryz.lays169 Tryz.Builder_Extra_169 B b l w h a
