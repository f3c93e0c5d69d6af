/-
  Rounded products, quotients and roots (Near), beside package trig's steps, for the seat Ytmjkmbhaemencaa. No Go text in sight.
-/
import Derived.Test.YtmjkmbhaemencaaTMath
import Derived.Test.YtmjkmbhaemencaaNear
